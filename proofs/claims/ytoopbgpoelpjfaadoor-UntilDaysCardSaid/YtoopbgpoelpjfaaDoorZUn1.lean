/- Several texts in one: UnA, UnB, UnC. -/
import Derived.Test.YtoopbgpoelpjfaaDoorZCiv1
import Derived.Test.YtoopbgpoelpjfaaDoorZMo1
namespace Go.Proofs.YtoopbgpoelpjfaaDoor
set_option linter.unusedVariables false
set_option linter.unusedSimpArgs false
open Go.ChangeShapes Go.WideShapes Go.ChangeAt Go.RowKit
def uT (y m : Int) : Int := 12 * y + m - 1
theorem ord3_le {y m d Y M D : Int} (h1 : 1 ≤ m) (h2 : m ≤ 12) (h3 : 1 ≤ M) (h4 : M ≤ 12) : ord3 y m d Y M D ≤ 0 ↔ (uT y m < uT Y M ∨ (uT y m = uT Y M ∧ d ≤ D)) := by
  unfold ord3 uT
  repeat' split
  all_goals omega
theorem ord3_ge {y m d Y M D : Int} (h1 : 1 ≤ m) (h2 : m ≤ 12) (h3 : 1 ≤ M) (h4 : M ≤ 12) : 0 ≤ ord3 y m d Y M D ↔ (uT Y M < uT y m ∨ (uT y m = uT Y M ∧ D ≤ d)) := by
  unfold ord3 uT
  repeat' split
  all_goals omega
theorem ord3_one {y m d Y M D : Int} : (0 < ord3 y m d Y M D → ord3 y m d Y M D = 1) ∧ (ord3 y m d Y M D < 0 → ord3 y m d Y M D = -1) := by
  unfold ord3
  repeat' split
  all_goals omega
theorem mo_T (y m n : Int) : uT (moY y m n) (moM y m n) = uT y m + n ∧ 1 ≤ moM y m n ∧ moM y m n ≤ 12 := by
  unfold uT moY moM moT; omega
theorem uT_inj {y m Y M : Int} (h1 : 1 ≤ m) (h2 : m ≤ 12) (h3 : 1 ≤ M) (h4 : M ≤ 12) (h : uT y m = uT Y M) : y = Y ∧ m = M := by
  unfold uT at h; omega
@[irreducible] def ftB (y m d Y M D n : Int) : Bool :=
  decide (-9999 ≤ moY y m n) && decide (moY y m n ≤ 9999) && (if ord3 y m d Y M D ≤ 0 then decide (ord3 (moY y m n) (moM y m n) (moD y m d n) Y M D ≤ 0) else decide (0 ≤ ord3 (moY y m n) (moM y m n) (moD y m d n) Y M D))
@[irreducible] def unN (y m d Y M D : Int) : Int :=
  if ord3 y m d Y M D ≤ 0 then (if min d (mdI Y M) ≤ D then uT Y M - uT y m else uT Y M - uT y m - 1) else (if D ≤ d then uT Y M - uT y m else uT Y M - uT y m + 1)
theorem moD_at {y m d n Y M : Int} (h1 : 1 ≤ m) (h2 : m ≤ 12) (h3 : 1 ≤ M) (h4 : M ≤ 12) (h : uT y m + n = uT Y M) : moY y m n = Y ∧ moM y m n = M ∧ moD y m d n = min d (mdI Y M) := by
  obtain ⟨a, b, c⟩ := mo_T y m n
  obtain ⟨e1, e2⟩ := uT_inj b c h3 h4 (by omega : uT (moY y m n) (moM y m n) = uT Y M)
  exact ⟨e1, e2, by unfold moD; rw [e1, e2]⟩
theorem un_up {y m d Y M D : Int} (ha : ckC y m d = 0) (hb : ckC Y M D = 0) (ho : ord3 y m d Y M D ≤ 0) :
    0 ≤ unN y m d Y M D ∧ unN y m d Y M D ≤ uT Y M - uT y m ∧ uT Y M - uT y m ≤ unN y m d Y M D + 1 ∧ ftB y m d Y M D (unN y m d Y M D) = true ∧ (∀ n, unN y m d Y M D < n → ftB y m d Y M D n = false) ∧
    (uT Y M - uT y m = unN y m d Y M D → min d (mdI Y M) ≤ D) ∧ (uT Y M - uT y m = unN y m d Y M D + 1 → D < min d (mdI Y M)) := by
  obtain ⟨hm, y1, y2⟩ := of_ckC ha
  obtain ⟨hM, Y1, Y2⟩ := of_ckC hb
  obtain ⟨p1, p2, p3, p4, p5⟩ := mayB_yes hm
  obtain ⟨q1, q2, q3, q4, q5⟩ := mayB_yes hM
  have ho2 := (ord3_le p3 p4 q3 q4).mp ho
  have hN : unN y m d Y M D = if min d (mdI Y M) ≤ D then uT Y M - uT y m else uT Y M - uT y m - 1 := by unfold unN; exact if_pos ho
  have hlow : 0 ≤ unN y m d Y M D ∧ unN y m d Y M D ≤ uT Y M - uT y m ∧ uT Y M - uT y m ≤ unN y m d Y M D + 1 := by
    rw [hN]; split <;> omega
  have rng : ∀ n, 0 ≤ n → n ≤ uT Y M - uT y m → -9999 ≤ moY y m n ∧ moY y m n ≤ 9999 := by
    intro n n1 n2
    obtain ⟨a, b, c⟩ := mo_T y m n
    unfold uT at *; omega
  refine ⟨hlow.1, hlow.2.1, hlow.2.2, ?_, ?_, ?_, ?_⟩
  · obtain ⟨r1, r2⟩ := rng _ hlow.1 hlow.2.1
    obtain ⟨a, b, c⟩ := mo_T y m (unN y m d Y M D)
    unfold ftB
    rw [decide_eq_true r1, decide_eq_true r2, if_pos ho]
    simp only [Bool.true_and, decide_eq_true_eq]
    rw [ord3_le b c q3 q4, a]
    by_cases e : uT y m + unN y m d Y M D = uT Y M
    · right
      refine ⟨e, ?_⟩
      rw [(moD_at p3 p4 q3 q4 e).2.2]
      rw [hN] at e
      split at e <;> omega
    · left; omega
  · intro n hn
    unfold ftB
    rw [if_pos ho]
    cases g1 : decide (-9999 ≤ moY y m n)
    · rfl
    cases g2 : decide (moY y m n ≤ 9999)
    · rfl
    simp only [Bool.true_and, decide_eq_false_iff_not]
    obtain ⟨a, b, c⟩ := mo_T y m n
    rw [ord3_le b c q3 q4, a]
    rintro (h | ⟨h, h2⟩)
    · omega
    · rw [(moD_at p3 p4 q3 q4 h).2.2] at h2
      rw [hN] at hn
      split at hn <;> omega
  · intro e
    rw [hN] at e
    split at e <;> omega
  · intro e
    rw [hN] at e
    split at e <;> omega
theorem un_down {y m d Y M D : Int} (ha : ckC y m d = 0) (hb : ckC Y M D = 0) (ho : ¬ ord3 y m d Y M D ≤ 0) :
    unN y m d Y M D ≤ 0 ∧ uT Y M - uT y m ≤ unN y m d Y M D ∧ unN y m d Y M D - 1 ≤ uT Y M - uT y m ∧ ftB y m d Y M D (unN y m d Y M D) = true ∧ (∀ n, n < unN y m d Y M D → ftB y m d Y M D n = false) ∧
    (uT Y M - uT y m = unN y m d Y M D → D ≤ d) ∧ (uT Y M - uT y m = unN y m d Y M D - 1 → d < D) := by
  obtain ⟨hm, y1, y2⟩ := of_ckC ha
  obtain ⟨hM, Y1, Y2⟩ := of_ckC hb
  obtain ⟨p1, p2, p3, p4, p5⟩ := mayB_yes hm
  obtain ⟨q1, q2, q3, q4, q5⟩ := mayB_yes hM
  have ho2 : ¬ (uT y m < uT Y M ∨ (uT y m = uT Y M ∧ d ≤ D)) := fun h => ho ((ord3_le p3 p4 q3 q4).mpr h)
  have hN : unN y m d Y M D = if D ≤ d then uT Y M - uT y m else uT Y M - uT y m + 1 := by unfold unN; exact if_neg ho
  have hlow : unN y m d Y M D ≤ 0 ∧ uT Y M - uT y m ≤ unN y m d Y M D ∧ unN y m d Y M D - 1 ≤ uT Y M - uT y m := by
    rw [hN]; split <;> omega
  have rng : ∀ n, n ≤ 0 → uT Y M - uT y m ≤ n → -9999 ≤ moY y m n ∧ moY y m n ≤ 9999 := by
    intro n n1 n2
    obtain ⟨a, b, c⟩ := mo_T y m n
    unfold uT at *; omega
  refine ⟨hlow.1, hlow.2.1, hlow.2.2, ?_, ?_, ?_, ?_⟩
  · obtain ⟨r1, r2⟩ := rng _ hlow.1 hlow.2.1
    obtain ⟨a, b, c⟩ := mo_T y m (unN y m d Y M D)
    unfold ftB
    rw [decide_eq_true r1, decide_eq_true r2, if_neg ho]
    simp only [Bool.true_and, decide_eq_true_eq]
    rw [ord3_ge b c q3 q4, a]
    by_cases e : uT y m + unN y m d Y M D = uT Y M
    · right
      refine ⟨e, ?_⟩
      rw [(moD_at p3 p4 q3 q4 e).2.2]
      rw [hN] at e
      split at e <;> omega
    · left; omega
  · intro n hn
    unfold ftB
    rw [if_neg ho]
    cases g1 : decide (-9999 ≤ moY y m n)
    · rfl
    cases g2 : decide (moY y m n ≤ 9999)
    · rfl
    simp only [Bool.true_and, decide_eq_false_iff_not]
    obtain ⟨a, b, c⟩ := mo_T y m n
    rw [ord3_ge b c q3 q4, a]
    rintro (h | ⟨h, h2⟩)
    · omega
    · rw [(moD_at p3 p4 q3 q4 h).2.2] at h2
      rw [hN] at hn
      split at hn <;> omega
  · intro e
    rw [hN] at e
    split at e <;> omega
  · intro e
    rw [hN] at e
    split at e <;> omega
def fmI (y m : Int) : Int := yst y + cmN y (m - 1).toNat
theorem dn_fm (y m d : Int) : dnI y m d = fmI y m + d - 1 := by unfold dnI fmI; omega
theorem fm_next {y m Y M : Int} (h1 : 1 ≤ m) (h2 : m ≤ 12) (h3 : 1 ≤ M) (h4 : M ≤ 12) (h : uT Y M = uT y m + 1) : fmI Y M = fmI y m + mdI y m := by
  unfold uT at h
  by_cases e : m = 12
  · subst e
    obtain ⟨rfl, rfl⟩ : Y = y + 1 ∧ M = 1 := by omega
    have a := yst_succ y
    have b := cm_year y
    have c := cm_succ y 11
    unfold fmI
    rw [show ((1 : Int) - 1).toNat = 0 from rfl, show ((12 : Int) - 1).toNat = 11 from rfl, show cmN (y + 1) 0 = 0 from rfl]
    rw [show (11 + 1 : Nat) = 12 from rfl, show (((11 : Nat) : Int) + 1) = 12 from rfl] at c
    omega
  · obtain ⟨rfl, rfl⟩ : Y = y ∧ M = m + 1 := by omega
    have c := cm_succ Y (m - 1).toNat
    rw [show (((m - 1).toNat : Nat) : Int) + 1 = m by omega] at c
    unfold fmI
    rw [show (m + 1 - 1).toNat = (m - 1).toNat + 1 by omega]
    omega
theorem moD_may {y m d n : Int} (h : 1 ≤ d) : mayB (moY y m n) (moM y m n) (moD y m d n) = true := by
  obtain ⟨a, b, c⟩ := mo_T y m n
  have := mdI_ge (moY y m n) (moM y m n) ⟨b, c⟩
  exact may_of (by unfold moD; omega) (by unfold moD; omega)
@[irreducible] def unD (y m d Y M D : Int) : Int := dnI Y M D - dnI (moY y m (unN y m d Y M D)) (moM y m (unN y m d Y M D)) (moD y m d (unN y m d Y M D))
theorem un_zero {y m d Y M D : Int} (ha : ckC y m d = 0) (hb : ckC Y M D = 0) (ho : ord3 y m d Y M D = 0) : unN y m d Y M D = 0 ∧ unD y m d Y M D = 0 := by
  obtain ⟨hm, y1, y2⟩ := of_ckC ha
  obtain ⟨hM, Y1, Y2⟩ := of_ckC hb
  obtain ⟨p1, p2, p3, p4, p5⟩ := mayB_yes hm
  obtain ⟨q1, q2, q3, q4, q5⟩ := mayB_yes hM
  have a := (ord3_le (y := y) (Y := Y) p3 p4 q3 q4 (d := d) (D := D)).mp (by omega)
  have b := (ord3_ge (y := y) (Y := Y) p3 p4 q3 q4 (d := d) (D := D)).mp (by omega)
  obtain ⟨u1, u2, u3, u4, u5, u6, u7⟩ := un_up ha hb (by omega)
  have n0 : unN y m d Y M D = 0 := by omega
  refine ⟨n0, ?_⟩
  obtain ⟨e1, e2, e3⟩ := moD_at (d := d) p3 p4 q3 q4 (by omega : uT y m + unN y m d Y M D = uT Y M)
  unfold unD
  rw [e1, e2, e3, dn_fm, dn_fm]
  omega
theorem un_days {y m d Y M D : Int} (ha : ckC y m d = 0) (hb : ckC Y M D = 0) :
    (ord3 y m d Y M D ≤ 0 → 0 ≤ unD y m d Y M D ∧ unD y m d Y M D ≤ 30) ∧ (¬ ord3 y m d Y M D ≤ 0 → -30 ≤ unD y m d Y M D ∧ unD y m d Y M D ≤ 0) := by
  obtain ⟨hm, y1, y2⟩ := of_ckC ha
  obtain ⟨hM, Y1, Y2⟩ := of_ckC hb
  obtain ⟨p1, p2, p3, p4, p5⟩ := mayB_yes hm
  obtain ⟨q1, q2, q3, q4, q5⟩ := mayB_yes hM
  obtain ⟨a, b, c⟩ := mo_T y m (unN y m d Y M D)
  have k1 := mdI_le Y M
  have k2 := mdI_le (moY y m (unN y m d Y M D)) (moM y m (unN y m d Y M D))
  have hX : moD y m d (unN y m d Y M D) = min d (mdI (moY y m (unN y m d Y M D)) (moM y m (unN y m d Y M D))) := rfl
  constructor
  · intro ho
    obtain ⟨u1, u2, u3, u4, u5, u6, u7⟩ := un_up ha hb ho
    unfold unD
    rw [dn_fm, dn_fm]
    by_cases e : uT Y M - uT y m = unN y m d Y M D
    · obtain ⟨e1, e2, e3⟩ := moD_at (d := d) p3 p4 q3 q4 (by omega : uT y m + unN y m d Y M D = uT Y M)
      rw [e3, e1, e2]
      have := u6 e
      omega
    · have := u7 (by omega)
      have f := fm_next b c q3 q4 (by omega : uT Y M = uT (moY y m (unN y m d Y M D)) (moM y m (unN y m d Y M D)) + 1)
      rw [hX]
      omega
  · intro ho
    obtain ⟨u1, u2, u3, u4, u5, u6, u7⟩ := un_down ha hb ho
    unfold unD
    rw [dn_fm, dn_fm]
    by_cases e : uT Y M - uT y m = unN y m d Y M D
    · obtain ⟨e1, e2, e3⟩ := moD_at (d := d) p3 p4 q3 q4 (by omega : uT y m + unN y m d Y M D = uT Y M)
      rw [e3, e1, e2]
      have := u6 e
      omega
    · have := u7 (by omega)
      have f := fm_next q3 q4 b c (by omega : uT (moY y m (unN y m d Y M D)) (moM y m (unN y m d Y M D)) = uT Y M + 1)
      rw [hX]
      omega
end Go.Proofs.YtoopbgpoelpjfaaDoor
namespace Go.Proofs.YtoopbgpoelpjfaaDoor
set_option linter.unusedVariables false
set_option linter.unusedSimpArgs false
open Go.ChangeShapes Go.WideShapes Go.ChangeAt Go.RowKit
theorem rmAddC_any (y m d n : Int) (hc : ckC y m d = 0) (bn : in64 n) (h1 : -9999 ≤ moY y m n) (h2 : moY y m n ≤ 9999) (w : World) : Calls Tryd.prog 14 #[.agg #[.int .i64 y, .int .i64 m, .int .i64 d], .int .i64 n, .int .i64 0] w fun e w' => e = .returned (.tuple #[.agg #[.int .i64 (moY y m n), .int .i64 (moM y m n), .int .i64 (moD y m d n)], .int .i64 0]) ∧ Below w.heap.size w w' := by
  by_cases h : mdI (moY y m n) (moM y m n) < d
  · rw [show moD y m d n = mdI (moY y m n) (moM y m n) by unfold moD; omega]
    exact rmAdd_cut y m d n 0 (Or.inl rfl) hc bn h1 h2 h rfl w
  · rw [show moD y m d n = d by unfold moD; omega]
    exact rmAdd_low y m d n 0 (Or.inl rfl) hc bn h1 h2 h w
set_option maxHeartbeats 3200000 in
set_option maxRecDepth 100000 in
theorem ruFits_any (y m d Y M D n : Int) (hc : ckC y m d = 0) (bn : in64 n) (w : World) : Calls Tryd.prog 25 #[.agg #[.int .i64 y, .int .i64 m, .int .i64 d], .agg #[.int .i64 Y, .int .i64 M, .int .i64 D], .int .i64 n] w fun e w' => e = .returned (.bool (ftB y m d Y M D n)) ∧ Below w.heap.size w w' := by
  by_cases ho : moY y m n < -9999 ∨ 9999 < moY y m n
  · have H1 := Lib.hid (rmAdd_out y m d n 0 (Or.inl rfl) hc bn ho)
    have E : Hid (ftB y m d Y M D n = false) := Lib.hid (by
      unfold ftB
      rcases ho with h | h
      · rw [decide_eq_false (by omega : ¬ -9999 ≤ moY y m n)]; rfl
      · rw [decide_eq_false (by omega : ¬ moY y m n ≤ 9999), Bool.and_false]; rfl)
    clear ho
    go_enter Tryd.func25, Tryd.ntmps25
    go_wp2_with fail
    
    refine (H1.out _).mono ?_
    rintro e V1 ⟨rfl, hb1⟩
    have B1 := Lib.hid ((((Below.refl w.heap.size w).alloc (Nat.le_refl _) _).alloc (by simp <;> omega) _).trans (hb1.mono (by first | assumption | (simp <;> omega) | (simp; done))))
    have A1 := Lib.hid (row_call hb1 (row_alloc (heap_alloc_new _ _) _))
    have C1 := Lib.hid (row_at (k' := w.heap.size + 1) (by simp) (row_call hb1 (heap_alloc_new _ _)))
    clear hb1
    have A1_0 : V1.cell? ⟨w.heap.size, 0, none⟩ = some (.int .i64 y) := cell_of_row _ _ _ _ _ _ A1.out
    have A1_1 : V1.cell? ⟨w.heap.size, 1, none⟩ = some (.int .i64 m) := cell_of_row _ _ _ _ _ _ A1.out
    have A1_2 : V1.cell? ⟨w.heap.size, 2, none⟩ = some (.int .i64 d) := cell_of_row _ _ _ _ _ _ A1.out
    have C1_0 : V1.cell? ⟨w.heap.size + 1, 0, none⟩ = some (.int .i64 Y) := cell_of_row _ _ _ _ _ _ C1.out
    have C1_1 : V1.cell? ⟨w.heap.size + 1, 1, none⟩ = some (.int .i64 M) := cell_of_row _ _ _ _ _ _ C1.out
    have C1_2 : V1.cell? ⟨w.heap.size + 1, 2, none⟩ = some (.int .i64 D) := cell_of_row _ _ _ _ _ _ C1.out
    have zA1 := lt_of_heap A1.out
    have zC1 := lt_of_heap C1.out
    go_simp
    go_wp2
    go_ret
    exact ⟨by rw [E.out]; try rfl, by first | exact B1.out | exact B1.out.alloc B1.out.size _⟩
  · have h1 : -9999 ≤ moY y m n := by omega
    have h2 : moY y m n ≤ 9999 := by omega
    have H1 := Lib.hid (rmAddC_any y m d n hc bn h1 h2)
    have H2 := Lib.hid (rCmp6_any y m d Y M D)
    have H3 := Lib.hid (rCmp6_any (moY y m n) (moM y m n) (moD y m d n) Y M D)
    have E : ftB y m d Y M D n = (if ord3 y m d Y M D ≤ 0 then decide (ord3 (moY y m n) (moM y m n) (moD y m d n) Y M D ≤ 0) else decide (0 ≤ ord3 (moY y m n) (moM y m n) (moD y m d n) Y M D)) := by
      unfold ftB
      rw [decide_eq_true h1, decide_eq_true h2]; rfl
    clear ho h1 h2
    generalize ord3 (moY y m n) (moM y m n) (moD y m d n) Y M D = o2 at *
    generalize ord3 y m d Y M D = o1 at *
    generalize moY y m n = X1 at *
    generalize moM y m n = X2 at *
    generalize moD y m d n = X3 at *
    by_cases h : o1 ≤ 0
    · rw [if_pos h] at E
      replace E := Lib.hid E
      go_enter Tryd.func25, Tryd.ntmps25
      go_wp2_with fail
      
      refine (H1.out _).mono ?_
      rintro e V1 ⟨rfl, hb1⟩
      have B1 := Lib.hid ((((Below.refl w.heap.size w).alloc (Nat.le_refl _) _).alloc (by simp <;> omega) _).trans (hb1.mono (by first | assumption | (simp <;> omega) | (simp; done))))
      have A1 := Lib.hid (row_call hb1 (row_alloc (heap_alloc_new _ _) _))
      have C1 := Lib.hid (row_at (k' := w.heap.size + 1) (by simp) (row_call hb1 (heap_alloc_new _ _)))
      clear hb1
      have A1_0 : V1.cell? ⟨w.heap.size, 0, none⟩ = some (.int .i64 y) := cell_of_row _ _ _ _ _ _ A1.out
      have A1_1 : V1.cell? ⟨w.heap.size, 1, none⟩ = some (.int .i64 m) := cell_of_row _ _ _ _ _ _ A1.out
      have A1_2 : V1.cell? ⟨w.heap.size, 2, none⟩ = some (.int .i64 d) := cell_of_row _ _ _ _ _ _ A1.out
      have C1_0 : V1.cell? ⟨w.heap.size + 1, 0, none⟩ = some (.int .i64 Y) := cell_of_row _ _ _ _ _ _ C1.out
      have C1_1 : V1.cell? ⟨w.heap.size + 1, 1, none⟩ = some (.int .i64 M) := cell_of_row _ _ _ _ _ _ C1.out
      have C1_2 : V1.cell? ⟨w.heap.size + 1, 2, none⟩ = some (.int .i64 D) := cell_of_row _ _ _ _ _ _ C1.out
      have zA1 := lt_of_heap A1.out
      have zC1 := lt_of_heap C1.out
      go_simp
      go_wp2_with fail
      refine (H2.out _).mono ?_
      rintro e V2 ⟨rfl, hb2⟩
      clear A1_0 A1_1 A1_2 zA1 C1_0 C1_1 C1_2 zC1
      have nA1N1 := Lib.hid (lt_of_heap A1.out)
      have nC1N1 := Lib.hid (lt_of_heap C1.out)
      have B2 := Lib.hid (((B1.out).alloc (B1.out.size) _).trans (hb2.mono (by have := B1.out.size; first | assumption | (simp <;> omega) | (simp; done))))
      replace A1 := Lib.hid (row_call hb2 (row_alloc A1.out _))
      replace C1 := Lib.hid (row_call hb2 (row_alloc C1.out _))
      have N1 := Lib.hid (row_call hb2 (heap_alloc_new _ _))
      clear hb2
      have A1_0 : V2.cell? ⟨w.heap.size, 0, none⟩ = some (.int .i64 y) := cell_of_row _ _ _ _ _ _ A1.out
      have A1_1 : V2.cell? ⟨w.heap.size, 1, none⟩ = some (.int .i64 m) := cell_of_row _ _ _ _ _ _ A1.out
      have A1_2 : V2.cell? ⟨w.heap.size, 2, none⟩ = some (.int .i64 d) := cell_of_row _ _ _ _ _ _ A1.out
      have C1_0 : V2.cell? ⟨w.heap.size + 1, 0, none⟩ = some (.int .i64 Y) := cell_of_row _ _ _ _ _ _ C1.out
      have C1_1 : V2.cell? ⟨w.heap.size + 1, 1, none⟩ = some (.int .i64 M) := cell_of_row _ _ _ _ _ _ C1.out
      have C1_2 : V2.cell? ⟨w.heap.size + 1, 2, none⟩ = some (.int .i64 D) := cell_of_row _ _ _ _ _ _ C1.out
      have N1_0 : V2.cell? ⟨V1.heap.size, 0, none⟩ = some (.int .i64 X1) := cell_of_row _ _ _ _ _ _ N1.out
      have N1_1 : V2.cell? ⟨V1.heap.size, 1, none⟩ = some (.int .i64 X2) := cell_of_row _ _ _ _ _ _ N1.out
      have N1_2 : V2.cell? ⟨V1.heap.size, 2, none⟩ = some (.int .i64 X3) := cell_of_row _ _ _ _ _ _ N1.out
      have zA1 := lt_of_heap A1.out
      have zC1 := lt_of_heap C1.out
      have zN1 := lt_of_heap N1.out
      go_simp
      go_wp2_with fail
      refine (H3.out _).mono ?_
      rintro e V3 ⟨rfl, hb3⟩
      clear A1_0 A1_1 A1_2 zA1 C1_0 C1_1 C1_2 zC1 N1_0 N1_1 N1_2 zN1
      have B3 : Hid (Below w.heap.size w V3) := by first | exact Lib.hid ((B2.out).trans (hb3.mono (by have := B2.out.size; first | assumption | (simp <;> omega) | (simp; done)))) | exact Lib.hid (((B2.out).alloc (B2.out.size) _).trans (hb3.mono (by have := B2.out.size; first | assumption | (simp <;> omega) | (simp; done)))) | exact Lib.hid ((((B2.out).alloc (B2.out.size) _).alloc (by have := B2.out.size; simp <;> omega) _).trans (hb3.mono (by have := B2.out.size; first | assumption | (simp <;> omega) | (simp; done)))) | exact Lib.hid (((((B2.out).alloc (B2.out.size) _).alloc (by have := B2.out.size; simp <;> omega) _).alloc (by have := B2.out.size; simp <;> omega) _).trans (hb3.mono (by have := B2.out.size; first | assumption | (simp <;> omega) | (simp; done))))
      first | replace A1 := Lib.hid (row_call hb3 A1.out) | replace A1 := Lib.hid (row_call hb3 (row_alloc A1.out _)) | replace A1 := Lib.hid (row_call hb3 (row_alloc (row_alloc A1.out _) _)) | replace A1 := Lib.hid (row_call hb3 (row_alloc (row_alloc (row_alloc A1.out _) _) _))
      first | replace C1 := Lib.hid (row_call hb3 C1.out) | replace C1 := Lib.hid (row_call hb3 (row_alloc C1.out _)) | replace C1 := Lib.hid (row_call hb3 (row_alloc (row_alloc C1.out _) _)) | replace C1 := Lib.hid (row_call hb3 (row_alloc (row_alloc (row_alloc C1.out _) _) _))
      first | replace N1 := Lib.hid (row_call hb3 N1.out) | replace N1 := Lib.hid (row_call hb3 (row_alloc N1.out _)) | replace N1 := Lib.hid (row_call hb3 (row_alloc (row_alloc N1.out _) _)) | replace N1 := Lib.hid (row_call hb3 (row_alloc (row_alloc (row_alloc N1.out _) _) _))
      clear hb3
      have A1_0 : V3.cell? ⟨w.heap.size, 0, none⟩ = some (.int .i64 y) := cell_of_row _ _ _ _ _ _ A1.out
      have A1_1 : V3.cell? ⟨w.heap.size, 1, none⟩ = some (.int .i64 m) := cell_of_row _ _ _ _ _ _ A1.out
      have A1_2 : V3.cell? ⟨w.heap.size, 2, none⟩ = some (.int .i64 d) := cell_of_row _ _ _ _ _ _ A1.out
      have C1_0 : V3.cell? ⟨w.heap.size + 1, 0, none⟩ = some (.int .i64 Y) := cell_of_row _ _ _ _ _ _ C1.out
      have C1_1 : V3.cell? ⟨w.heap.size + 1, 1, none⟩ = some (.int .i64 M) := cell_of_row _ _ _ _ _ _ C1.out
      have C1_2 : V3.cell? ⟨w.heap.size + 1, 2, none⟩ = some (.int .i64 D) := cell_of_row _ _ _ _ _ _ C1.out
      have N1_0 : V3.cell? ⟨V1.heap.size, 0, none⟩ = some (.int .i64 X1) := cell_of_row _ _ _ _ _ _ N1.out
      have N1_1 : V3.cell? ⟨V1.heap.size, 1, none⟩ = some (.int .i64 X2) := cell_of_row _ _ _ _ _ _ N1.out
      have N1_2 : V3.cell? ⟨V1.heap.size, 2, none⟩ = some (.int .i64 X3) := cell_of_row _ _ _ _ _ _ N1.out
      have zA1 := lt_of_heap A1.out
      have zC1 := lt_of_heap C1.out
      have zN1 := lt_of_heap N1.out
      go_simp
      go_wp2
      go_ret
      exact ⟨by rw [E.out]; try rfl, by first | exact B3.out | exact B3.out.alloc B3.out.size _⟩
    · rw [if_neg h] at E
      replace E := Lib.hid E
      go_enter Tryd.func25, Tryd.ntmps25
      go_wp2_with fail
      
      refine (H1.out _).mono ?_
      rintro e V1 ⟨rfl, hb1⟩
      have B1 := Lib.hid ((((Below.refl w.heap.size w).alloc (Nat.le_refl _) _).alloc (by simp <;> omega) _).trans (hb1.mono (by first | assumption | (simp <;> omega) | (simp; done))))
      have A1 := Lib.hid (row_call hb1 (row_alloc (heap_alloc_new _ _) _))
      have C1 := Lib.hid (row_at (k' := w.heap.size + 1) (by simp) (row_call hb1 (heap_alloc_new _ _)))
      clear hb1
      have A1_0 : V1.cell? ⟨w.heap.size, 0, none⟩ = some (.int .i64 y) := cell_of_row _ _ _ _ _ _ A1.out
      have A1_1 : V1.cell? ⟨w.heap.size, 1, none⟩ = some (.int .i64 m) := cell_of_row _ _ _ _ _ _ A1.out
      have A1_2 : V1.cell? ⟨w.heap.size, 2, none⟩ = some (.int .i64 d) := cell_of_row _ _ _ _ _ _ A1.out
      have C1_0 : V1.cell? ⟨w.heap.size + 1, 0, none⟩ = some (.int .i64 Y) := cell_of_row _ _ _ _ _ _ C1.out
      have C1_1 : V1.cell? ⟨w.heap.size + 1, 1, none⟩ = some (.int .i64 M) := cell_of_row _ _ _ _ _ _ C1.out
      have C1_2 : V1.cell? ⟨w.heap.size + 1, 2, none⟩ = some (.int .i64 D) := cell_of_row _ _ _ _ _ _ C1.out
      have zA1 := lt_of_heap A1.out
      have zC1 := lt_of_heap C1.out
      go_simp
      go_wp2_with fail
      refine (H2.out _).mono ?_
      rintro e V2 ⟨rfl, hb2⟩
      clear A1_0 A1_1 A1_2 zA1 C1_0 C1_1 C1_2 zC1
      have nA1N1 := Lib.hid (lt_of_heap A1.out)
      have nC1N1 := Lib.hid (lt_of_heap C1.out)
      have B2 := Lib.hid (((B1.out).alloc (B1.out.size) _).trans (hb2.mono (by have := B1.out.size; first | assumption | (simp <;> omega) | (simp; done))))
      replace A1 := Lib.hid (row_call hb2 (row_alloc A1.out _))
      replace C1 := Lib.hid (row_call hb2 (row_alloc C1.out _))
      have N1 := Lib.hid (row_call hb2 (heap_alloc_new _ _))
      clear hb2
      have A1_0 : V2.cell? ⟨w.heap.size, 0, none⟩ = some (.int .i64 y) := cell_of_row _ _ _ _ _ _ A1.out
      have A1_1 : V2.cell? ⟨w.heap.size, 1, none⟩ = some (.int .i64 m) := cell_of_row _ _ _ _ _ _ A1.out
      have A1_2 : V2.cell? ⟨w.heap.size, 2, none⟩ = some (.int .i64 d) := cell_of_row _ _ _ _ _ _ A1.out
      have C1_0 : V2.cell? ⟨w.heap.size + 1, 0, none⟩ = some (.int .i64 Y) := cell_of_row _ _ _ _ _ _ C1.out
      have C1_1 : V2.cell? ⟨w.heap.size + 1, 1, none⟩ = some (.int .i64 M) := cell_of_row _ _ _ _ _ _ C1.out
      have C1_2 : V2.cell? ⟨w.heap.size + 1, 2, none⟩ = some (.int .i64 D) := cell_of_row _ _ _ _ _ _ C1.out
      have N1_0 : V2.cell? ⟨V1.heap.size, 0, none⟩ = some (.int .i64 X1) := cell_of_row _ _ _ _ _ _ N1.out
      have N1_1 : V2.cell? ⟨V1.heap.size, 1, none⟩ = some (.int .i64 X2) := cell_of_row _ _ _ _ _ _ N1.out
      have N1_2 : V2.cell? ⟨V1.heap.size, 2, none⟩ = some (.int .i64 X3) := cell_of_row _ _ _ _ _ _ N1.out
      have zA1 := lt_of_heap A1.out
      have zC1 := lt_of_heap C1.out
      have zN1 := lt_of_heap N1.out
      go_simp
      go_wp2_with fail
      refine (H3.out _).mono ?_
      rintro e V3 ⟨rfl, hb3⟩
      clear A1_0 A1_1 A1_2 zA1 C1_0 C1_1 C1_2 zC1 N1_0 N1_1 N1_2 zN1
      have B3 : Hid (Below w.heap.size w V3) := by first | exact Lib.hid ((B2.out).trans (hb3.mono (by have := B2.out.size; first | assumption | (simp <;> omega) | (simp; done)))) | exact Lib.hid (((B2.out).alloc (B2.out.size) _).trans (hb3.mono (by have := B2.out.size; first | assumption | (simp <;> omega) | (simp; done)))) | exact Lib.hid ((((B2.out).alloc (B2.out.size) _).alloc (by have := B2.out.size; simp <;> omega) _).trans (hb3.mono (by have := B2.out.size; first | assumption | (simp <;> omega) | (simp; done)))) | exact Lib.hid (((((B2.out).alloc (B2.out.size) _).alloc (by have := B2.out.size; simp <;> omega) _).alloc (by have := B2.out.size; simp <;> omega) _).trans (hb3.mono (by have := B2.out.size; first | assumption | (simp <;> omega) | (simp; done))))
      first | replace A1 := Lib.hid (row_call hb3 A1.out) | replace A1 := Lib.hid (row_call hb3 (row_alloc A1.out _)) | replace A1 := Lib.hid (row_call hb3 (row_alloc (row_alloc A1.out _) _)) | replace A1 := Lib.hid (row_call hb3 (row_alloc (row_alloc (row_alloc A1.out _) _) _))
      first | replace C1 := Lib.hid (row_call hb3 C1.out) | replace C1 := Lib.hid (row_call hb3 (row_alloc C1.out _)) | replace C1 := Lib.hid (row_call hb3 (row_alloc (row_alloc C1.out _) _)) | replace C1 := Lib.hid (row_call hb3 (row_alloc (row_alloc (row_alloc C1.out _) _) _))
      first | replace N1 := Lib.hid (row_call hb3 N1.out) | replace N1 := Lib.hid (row_call hb3 (row_alloc N1.out _)) | replace N1 := Lib.hid (row_call hb3 (row_alloc (row_alloc N1.out _) _)) | replace N1 := Lib.hid (row_call hb3 (row_alloc (row_alloc (row_alloc N1.out _) _) _))
      clear hb3
      have A1_0 : V3.cell? ⟨w.heap.size, 0, none⟩ = some (.int .i64 y) := cell_of_row _ _ _ _ _ _ A1.out
      have A1_1 : V3.cell? ⟨w.heap.size, 1, none⟩ = some (.int .i64 m) := cell_of_row _ _ _ _ _ _ A1.out
      have A1_2 : V3.cell? ⟨w.heap.size, 2, none⟩ = some (.int .i64 d) := cell_of_row _ _ _ _ _ _ A1.out
      have C1_0 : V3.cell? ⟨w.heap.size + 1, 0, none⟩ = some (.int .i64 Y) := cell_of_row _ _ _ _ _ _ C1.out
      have C1_1 : V3.cell? ⟨w.heap.size + 1, 1, none⟩ = some (.int .i64 M) := cell_of_row _ _ _ _ _ _ C1.out
      have C1_2 : V3.cell? ⟨w.heap.size + 1, 2, none⟩ = some (.int .i64 D) := cell_of_row _ _ _ _ _ _ C1.out
      have N1_0 : V3.cell? ⟨V1.heap.size, 0, none⟩ = some (.int .i64 X1) := cell_of_row _ _ _ _ _ _ N1.out
      have N1_1 : V3.cell? ⟨V1.heap.size, 1, none⟩ = some (.int .i64 X2) := cell_of_row _ _ _ _ _ _ N1.out
      have N1_2 : V3.cell? ⟨V1.heap.size, 2, none⟩ = some (.int .i64 X3) := cell_of_row _ _ _ _ _ _ N1.out
      have zA1 := lt_of_heap A1.out
      have zC1 := lt_of_heap C1.out
      have zN1 := lt_of_heap N1.out
      go_simp
      go_wp2
      go_ret
      exact ⟨by rw [E.out]; try rfl, by first | exact B3.out | exact B3.out.alloc B3.out.size _⟩
def unE (y m d Y M D : Int) : Int := if ckC y m d ≠ 0 then ckC y m d else ckC Y M D
theorem unE_zero {y m d Y M D : Int} (h : unE y m d Y M D = 0) : ckC y m d = 0 ∧ ckC Y M D = 0 := by
  unfold unE at h
  split at h
  · rename_i k; exact absurd h k
  · rename_i k; exact ⟨by omega, h⟩
set_option maxHeartbeats 3200000 in
set_option maxRecDepth 100000 in
theorem ruMonths_no (y m d Y M D : Int) (h : unE y m d Y M D ≠ 0) (w : World) : Calls Tryd.prog 10 #[.agg #[.int .i64 y, .int .i64 m, .int .i64 d], .agg #[.int .i64 Y, .int .i64 M, .int .i64 D]] w fun e w' => e = .returned (.tuple #[.int .i64 0, .int .i64 (unE y m d Y M D)]) ∧ Below w.heap.size w w' := by
  have X1 := rCkC_any y m d
  have H2 := Lib.hid (rCkC_any Y M D)
  by_cases hc : ckC y m d = 0
  · have e : unE y m d Y M D = ckC Y M D := by unfold unE; rw [if_neg (by omega)]
    rw [e] at h ⊢
    rw [hc] at X1
    have H1 := Lib.hid X1
    clear X1 e hc
    generalize ckC Y M D = E at *
    have f1 : (E != 0) = true := by rw [bne_iff_ne]; exact h
    go_enter Tryd.func10, Tryd.ntmps10
    go_wp2_with fail
    
    refine (H1.out _).mono ?_
    rintro e V1 ⟨rfl, hb1⟩
    have B1 := Lib.hid ((((Below.refl w.heap.size w).alloc (Nat.le_refl _) _).alloc (by simp <;> omega) _).trans (hb1.mono (by first | assumption | (simp <;> omega) | (simp; done))))
    have A1 := Lib.hid (row_call hb1 (row_alloc (heap_alloc_new _ _) _))
    have C1 := Lib.hid (row_at (k' := w.heap.size + 1) (by simp) (row_call hb1 (heap_alloc_new _ _)))
    clear hb1
    have A1_0 : V1.cell? ⟨w.heap.size, 0, none⟩ = some (.int .i64 y) := cell_of_row _ _ _ _ _ _ A1.out
    have A1_1 : V1.cell? ⟨w.heap.size, 1, none⟩ = some (.int .i64 m) := cell_of_row _ _ _ _ _ _ A1.out
    have A1_2 : V1.cell? ⟨w.heap.size, 2, none⟩ = some (.int .i64 d) := cell_of_row _ _ _ _ _ _ A1.out
    have C1_0 : V1.cell? ⟨w.heap.size + 1, 0, none⟩ = some (.int .i64 Y) := cell_of_row _ _ _ _ _ _ C1.out
    have C1_1 : V1.cell? ⟨w.heap.size + 1, 1, none⟩ = some (.int .i64 M) := cell_of_row _ _ _ _ _ _ C1.out
    have C1_2 : V1.cell? ⟨w.heap.size + 1, 2, none⟩ = some (.int .i64 D) := cell_of_row _ _ _ _ _ _ C1.out
    have zA1 := lt_of_heap A1.out
    have zC1 := lt_of_heap C1.out
    go_simp
    go_wp2_with fail
    refine (H2.out _).mono ?_
    rintro e V2 ⟨rfl, hb2⟩
    clear A1_0 A1_1 A1_2 zA1 C1_0 C1_1 C1_2 zC1
    have B2 : Hid (Below w.heap.size w V2) := by first | exact Lib.hid ((B1.out).trans (hb2.mono (by have := B1.out.size; first | assumption | (simp <;> omega) | (simp; done)))) | exact Lib.hid (((B1.out).alloc (B1.out.size) _).trans (hb2.mono (by have := B1.out.size; first | assumption | (simp <;> omega) | (simp; done)))) | exact Lib.hid ((((B1.out).alloc (B1.out.size) _).alloc (by have := B1.out.size; simp <;> omega) _).trans (hb2.mono (by have := B1.out.size; first | assumption | (simp <;> omega) | (simp; done)))) | exact Lib.hid (((((B1.out).alloc (B1.out.size) _).alloc (by have := B1.out.size; simp <;> omega) _).alloc (by have := B1.out.size; simp <;> omega) _).trans (hb2.mono (by have := B1.out.size; first | assumption | (simp <;> omega) | (simp; done))))
    first | replace A1 := Lib.hid (row_call hb2 A1.out) | replace A1 := Lib.hid (row_call hb2 (row_alloc A1.out _)) | replace A1 := Lib.hid (row_call hb2 (row_alloc (row_alloc A1.out _) _)) | replace A1 := Lib.hid (row_call hb2 (row_alloc (row_alloc (row_alloc A1.out _) _) _))
    first | replace C1 := Lib.hid (row_call hb2 C1.out) | replace C1 := Lib.hid (row_call hb2 (row_alloc C1.out _)) | replace C1 := Lib.hid (row_call hb2 (row_alloc (row_alloc C1.out _) _)) | replace C1 := Lib.hid (row_call hb2 (row_alloc (row_alloc (row_alloc C1.out _) _) _))
    clear hb2
    have A1_0 : V2.cell? ⟨w.heap.size, 0, none⟩ = some (.int .i64 y) := cell_of_row _ _ _ _ _ _ A1.out
    have A1_1 : V2.cell? ⟨w.heap.size, 1, none⟩ = some (.int .i64 m) := cell_of_row _ _ _ _ _ _ A1.out
    have A1_2 : V2.cell? ⟨w.heap.size, 2, none⟩ = some (.int .i64 d) := cell_of_row _ _ _ _ _ _ A1.out
    have C1_0 : V2.cell? ⟨w.heap.size + 1, 0, none⟩ = some (.int .i64 Y) := cell_of_row _ _ _ _ _ _ C1.out
    have C1_1 : V2.cell? ⟨w.heap.size + 1, 1, none⟩ = some (.int .i64 M) := cell_of_row _ _ _ _ _ _ C1.out
    have C1_2 : V2.cell? ⟨w.heap.size + 1, 2, none⟩ = some (.int .i64 D) := cell_of_row _ _ _ _ _ _ C1.out
    have zA1 := lt_of_heap A1.out
    have zC1 := lt_of_heap C1.out
    go_simp
    go_wp2
    go_ret2
    exact ⟨rfl, B2.out⟩
  · have e : unE y m d Y M D = ckC y m d := by unfold unE; rw [if_pos hc]
    rw [e] at h ⊢
    have H1 := Lib.hid X1
    clear X1 e hc H2
    generalize ckC y m d = E at *
    have f1 : (E != 0) = true := by rw [bne_iff_ne]; exact h
    go_enter Tryd.func10, Tryd.ntmps10
    go_wp2_with fail
    
    refine (H1.out _).mono ?_
    rintro e V1 ⟨rfl, hb1⟩
    have B1 := Lib.hid ((((Below.refl w.heap.size w).alloc (Nat.le_refl _) _).alloc (by simp <;> omega) _).trans (hb1.mono (by first | assumption | (simp <;> omega) | (simp; done))))
    have A1 := Lib.hid (row_call hb1 (row_alloc (heap_alloc_new _ _) _))
    have C1 := Lib.hid (row_at (k' := w.heap.size + 1) (by simp) (row_call hb1 (heap_alloc_new _ _)))
    clear hb1
    have A1_0 : V1.cell? ⟨w.heap.size, 0, none⟩ = some (.int .i64 y) := cell_of_row _ _ _ _ _ _ A1.out
    have A1_1 : V1.cell? ⟨w.heap.size, 1, none⟩ = some (.int .i64 m) := cell_of_row _ _ _ _ _ _ A1.out
    have A1_2 : V1.cell? ⟨w.heap.size, 2, none⟩ = some (.int .i64 d) := cell_of_row _ _ _ _ _ _ A1.out
    have C1_0 : V1.cell? ⟨w.heap.size + 1, 0, none⟩ = some (.int .i64 Y) := cell_of_row _ _ _ _ _ _ C1.out
    have C1_1 : V1.cell? ⟨w.heap.size + 1, 1, none⟩ = some (.int .i64 M) := cell_of_row _ _ _ _ _ _ C1.out
    have C1_2 : V1.cell? ⟨w.heap.size + 1, 2, none⟩ = some (.int .i64 D) := cell_of_row _ _ _ _ _ _ C1.out
    have zA1 := lt_of_heap A1.out
    have zC1 := lt_of_heap C1.out
    go_simp
    go_wp2
    go_ret2
    exact ⟨rfl, B1.out⟩
structure UnR (y m d Y M D : Int) (w wr : World) : Prop where
  fa : wr.heap[w.heap.size]? = some (.cells #[.int .i64 y, .int .i64 m, .int .i64 d] 23 (0, 0))
  fb : wr.heap[w.heap.size + 1]? = some (.cells #[.int .i64 Y, .int .i64 M, .int .i64 D] 23 (0, 0))
  fw : Below w.heap.size w wr
set_option maxHeartbeats 3200000 in
set_option maxRecDepth 100000 in
theorem months_up (y m d Y M D o t K : Int) (y1 : -9999 ≤ y) (y2 : y ≤ 9999) (m1 : 1 ≤ m) (m2 : m ≤ 12) (Y1 : -9999 ≤ Y) (Y2 : Y ≤ 9999) (M1 : 1 ≤ M) (M2 : M ≤ 12) (ht : 12 * (Y - y) + M - m = t) (ho : o ≤ 0) (hs : 0 ≤ t) (k0 : 0 ≤ K) (k1 : K ≤ t) (k2 : t ≤ 300000)
    (H1 : Hid (∀ w, Calls Tryd.prog 24 #[.agg #[.int .i64 y, .int .i64 m, .int .i64 d]] w fun e w' => e = .returned (.int .i64 0) ∧ Below w.heap.size w w'))
    (H2 : Hid (∀ w, Calls Tryd.prog 24 #[.agg #[.int .i64 Y, .int .i64 M, .int .i64 D]] w fun e w' => e = .returned (.int .i64 0) ∧ Below w.heap.size w w'))
    (H3 : Hid (∀ w, Calls Tryd.prog 13 #[.agg #[.int .i64 y, .int .i64 m, .int .i64 d], .agg #[.int .i64 Y, .int .i64 M, .int .i64 D]] w fun e w' => e = .returned (.int .i64 o) ∧ Below w.heap.size w w'))
    (HT : Hid (∀ w, Calls Tryd.prog 25 #[.agg #[.int .i64 y, .int .i64 m, .int .i64 d], .agg #[.int .i64 Y, .int .i64 M, .int .i64 D], .int .i64 (K)] w fun e w' => e = .returned (.bool true) ∧ Below w.heap.size w w'))
    (HF : Hid (∀ n, K < n → n ≤ 400000 → ∀ w, Calls Tryd.prog 25 #[.agg #[.int .i64 y, .int .i64 m, .int .i64 d], .agg #[.int .i64 Y, .int .i64 M, .int .i64 D], .int .i64 (n)] w fun e w' => e = .returned (.bool false) ∧ Below w.heap.size w w')) (w : World) :
    Calls Tryd.prog 10 #[.agg #[.int .i64 y, .int .i64 m, .int .i64 d], .agg #[.int .i64 Y, .int .i64 M, .int .i64 D]] w fun e w' => e = .returned (.tuple #[.int .i64 (K), .int .i64 0]) ∧ Below w.heap.size w w' := by
  go_enter Tryd.func10, Tryd.ntmps10
  go_wp2_with fail
  
  refine (H1.out _).mono ?_
  rintro e V1 ⟨rfl, hb1⟩
  have B1 := Lib.hid ((((Below.refl w.heap.size w).alloc (Nat.le_refl _) _).alloc (by simp <;> omega) _).trans (hb1.mono (by first | assumption | (simp <;> omega) | (simp; done))))
  have A1 := Lib.hid (row_call hb1 (row_alloc (heap_alloc_new _ _) _))
  have C1 := Lib.hid (row_at (k' := w.heap.size + 1) (by simp) (row_call hb1 (heap_alloc_new _ _)))
  clear hb1
  have A1_0 : V1.cell? ⟨w.heap.size, 0, none⟩ = some (.int .i64 y) := cell_of_row _ _ _ _ _ _ A1.out
  have A1_1 : V1.cell? ⟨w.heap.size, 1, none⟩ = some (.int .i64 m) := cell_of_row _ _ _ _ _ _ A1.out
  have A1_2 : V1.cell? ⟨w.heap.size, 2, none⟩ = some (.int .i64 d) := cell_of_row _ _ _ _ _ _ A1.out
  have C1_0 : V1.cell? ⟨w.heap.size + 1, 0, none⟩ = some (.int .i64 Y) := cell_of_row _ _ _ _ _ _ C1.out
  have C1_1 : V1.cell? ⟨w.heap.size + 1, 1, none⟩ = some (.int .i64 M) := cell_of_row _ _ _ _ _ _ C1.out
  have C1_2 : V1.cell? ⟨w.heap.size + 1, 2, none⟩ = some (.int .i64 D) := cell_of_row _ _ _ _ _ _ C1.out
  have zA1 := lt_of_heap A1.out
  have zC1 := lt_of_heap C1.out
  go_simp
  go_wp2_with fail
  refine (H2.out _).mono ?_
  rintro e V2 ⟨rfl, hb2⟩
  clear A1_0 A1_1 A1_2 zA1 C1_0 C1_1 C1_2 zC1
  have B2 : Hid (Below w.heap.size w V2) := by first | exact Lib.hid ((B1.out).trans (hb2.mono (by have := B1.out.size; first | assumption | (simp <;> omega) | (simp; done)))) | exact Lib.hid (((B1.out).alloc (B1.out.size) _).trans (hb2.mono (by have := B1.out.size; first | assumption | (simp <;> omega) | (simp; done)))) | exact Lib.hid ((((B1.out).alloc (B1.out.size) _).alloc (by have := B1.out.size; simp <;> omega) _).trans (hb2.mono (by have := B1.out.size; first | assumption | (simp <;> omega) | (simp; done)))) | exact Lib.hid (((((B1.out).alloc (B1.out.size) _).alloc (by have := B1.out.size; simp <;> omega) _).alloc (by have := B1.out.size; simp <;> omega) _).trans (hb2.mono (by have := B1.out.size; first | assumption | (simp <;> omega) | (simp; done))))
  first | replace A1 := Lib.hid (row_call hb2 A1.out) | replace A1 := Lib.hid (row_call hb2 (row_alloc A1.out _)) | replace A1 := Lib.hid (row_call hb2 (row_alloc (row_alloc A1.out _) _)) | replace A1 := Lib.hid (row_call hb2 (row_alloc (row_alloc (row_alloc A1.out _) _) _))
  first | replace C1 := Lib.hid (row_call hb2 C1.out) | replace C1 := Lib.hid (row_call hb2 (row_alloc C1.out _)) | replace C1 := Lib.hid (row_call hb2 (row_alloc (row_alloc C1.out _) _)) | replace C1 := Lib.hid (row_call hb2 (row_alloc (row_alloc (row_alloc C1.out _) _) _))
  clear hb2
  have A1_0 : V2.cell? ⟨w.heap.size, 0, none⟩ = some (.int .i64 y) := cell_of_row _ _ _ _ _ _ A1.out
  have A1_1 : V2.cell? ⟨w.heap.size, 1, none⟩ = some (.int .i64 m) := cell_of_row _ _ _ _ _ _ A1.out
  have A1_2 : V2.cell? ⟨w.heap.size, 2, none⟩ = some (.int .i64 d) := cell_of_row _ _ _ _ _ _ A1.out
  have C1_0 : V2.cell? ⟨w.heap.size + 1, 0, none⟩ = some (.int .i64 Y) := cell_of_row _ _ _ _ _ _ C1.out
  have C1_1 : V2.cell? ⟨w.heap.size + 1, 1, none⟩ = some (.int .i64 M) := cell_of_row _ _ _ _ _ _ C1.out
  have C1_2 : V2.cell? ⟨w.heap.size + 1, 2, none⟩ = some (.int .i64 D) := cell_of_row _ _ _ _ _ _ C1.out
  have zA1 := lt_of_heap A1.out
  have zC1 := lt_of_heap C1.out
  go_simp
  go_wp2_with fail
  refine (H3.out _).mono ?_
  rintro e V3 ⟨rfl, hb3⟩
  clear A1_0 A1_1 A1_2 zA1 C1_0 C1_1 C1_2 zC1
  have B3 : Hid (Below w.heap.size w V3) := by first | exact Lib.hid ((B2.out).trans (hb3.mono (by have := B2.out.size; first | assumption | (simp <;> omega) | (simp; done)))) | exact Lib.hid (((B2.out).alloc (B2.out.size) _).trans (hb3.mono (by have := B2.out.size; first | assumption | (simp <;> omega) | (simp; done)))) | exact Lib.hid ((((B2.out).alloc (B2.out.size) _).alloc (by have := B2.out.size; simp <;> omega) _).trans (hb3.mono (by have := B2.out.size; first | assumption | (simp <;> omega) | (simp; done)))) | exact Lib.hid (((((B2.out).alloc (B2.out.size) _).alloc (by have := B2.out.size; simp <;> omega) _).alloc (by have := B2.out.size; simp <;> omega) _).trans (hb3.mono (by have := B2.out.size; first | assumption | (simp <;> omega) | (simp; done))))
  first | replace A1 := Lib.hid (row_call hb3 A1.out) | replace A1 := Lib.hid (row_call hb3 (row_alloc A1.out _)) | replace A1 := Lib.hid (row_call hb3 (row_alloc (row_alloc A1.out _) _)) | replace A1 := Lib.hid (row_call hb3 (row_alloc (row_alloc (row_alloc A1.out _) _) _))
  first | replace C1 := Lib.hid (row_call hb3 C1.out) | replace C1 := Lib.hid (row_call hb3 (row_alloc C1.out _)) | replace C1 := Lib.hid (row_call hb3 (row_alloc (row_alloc C1.out _) _)) | replace C1 := Lib.hid (row_call hb3 (row_alloc (row_alloc (row_alloc C1.out _) _) _))
  clear hb3
  have A1_0 : V3.cell? ⟨w.heap.size, 0, none⟩ = some (.int .i64 y) := cell_of_row _ _ _ _ _ _ A1.out
  have A1_1 : V3.cell? ⟨w.heap.size, 1, none⟩ = some (.int .i64 m) := cell_of_row _ _ _ _ _ _ A1.out
  have A1_2 : V3.cell? ⟨w.heap.size, 2, none⟩ = some (.int .i64 d) := cell_of_row _ _ _ _ _ _ A1.out
  have C1_0 : V3.cell? ⟨w.heap.size + 1, 0, none⟩ = some (.int .i64 Y) := cell_of_row _ _ _ _ _ _ C1.out
  have C1_1 : V3.cell? ⟨w.heap.size + 1, 1, none⟩ = some (.int .i64 M) := cell_of_row _ _ _ _ _ _ C1.out
  have C1_2 : V3.cell? ⟨w.heap.size + 1, 2, none⟩ = some (.int .i64 D) := cell_of_row _ _ _ _ _ _ C1.out
  have zA1 := lt_of_heap A1.out
  have zC1 := lt_of_heap C1.out
  go_simp
  go_wp2_with fail
  have HR : Hid (UnR y m d Y M D w V3) := Lib.hid ⟨A1.out, C1.out, B3.out⟩
  clear A1_0 A1_1 A1_2 C1_0 C1_1 C1_2 zA1 zC1 A1 C1 B1 B2 B3 H1 H2 H3
  go_loopw [9] (fun s9 wr => ∃ n : Int, K ≤ n ∧ n ≤ t + 1 ∧ s9 = .int .i64 n ∧ UnR y m d Y M D w wr) (fun s9 _ => (intOf s9).toNat)
  case atStart => exact ⟨t + 1, by omega, by omega, rfl, HR.out⟩
  case round =>
    obtain ⟨n, n1, n2, rfl, hX⟩ := hrel
    clear HR
    obtain ⟨V20, rfl⟩ : ∃ V, V = wr := ⟨_, rfl⟩
    have A1 := Lib.hid hX.fa
    have C1 := Lib.hid hX.fb
    have B20 := Lib.hid hX.fw
    clear hX
    by_cases h0 : 0 < n
    · by_cases hk : n = K
      · subst hk
        
        have A1_0 : V20.cell? ⟨w.heap.size, 0, none⟩ = some (.int .i64 y) := cell_of_row _ _ _ _ _ _ A1.out
        have A1_1 : V20.cell? ⟨w.heap.size, 1, none⟩ = some (.int .i64 m) := cell_of_row _ _ _ _ _ _ A1.out
        have A1_2 : V20.cell? ⟨w.heap.size, 2, none⟩ = some (.int .i64 d) := cell_of_row _ _ _ _ _ _ A1.out
        have zA1 := lt_of_heap A1.out
        have C1_0 : V20.cell? ⟨w.heap.size + 1, 0, none⟩ = some (.int .i64 Y) := cell_of_row _ _ _ _ _ _ C1.out
        have C1_1 : V20.cell? ⟨w.heap.size + 1, 1, none⟩ = some (.int .i64 M) := cell_of_row _ _ _ _ _ _ C1.out
        have C1_2 : V20.cell? ⟨w.heap.size + 1, 2, none⟩ = some (.int .i64 D) := cell_of_row _ _ _ _ _ _ C1.out
        have zC1 := lt_of_heap C1.out
        go_wp2_with fail
        refine (HT.out _).mono ?_
        rintro e V21 ⟨rfl, hb21⟩
        clear A1_0 A1_1 A1_2 zA1 C1_0 C1_1 C1_2 zC1
        have B21 : Hid (Below w.heap.size w V21) := by first | exact Lib.hid ((B20.out).trans (hb21.mono (by have := B20.out.size; first | assumption | (simp <;> omega) | (simp; done)))) | exact Lib.hid (((B20.out).alloc (B20.out.size) _).trans (hb21.mono (by have := B20.out.size; first | assumption | (simp <;> omega) | (simp; done)))) | exact Lib.hid ((((B20.out).alloc (B20.out.size) _).alloc (by have := B20.out.size; simp <;> omega) _).trans (hb21.mono (by have := B20.out.size; first | assumption | (simp <;> omega) | (simp; done)))) | exact Lib.hid (((((B20.out).alloc (B20.out.size) _).alloc (by have := B20.out.size; simp <;> omega) _).alloc (by have := B20.out.size; simp <;> omega) _).trans (hb21.mono (by have := B20.out.size; first | assumption | (simp <;> omega) | (simp; done))))
        first | replace A1 := Lib.hid (row_call hb21 A1.out) | replace A1 := Lib.hid (row_call hb21 (row_alloc A1.out _)) | replace A1 := Lib.hid (row_call hb21 (row_alloc (row_alloc A1.out _) _)) | replace A1 := Lib.hid (row_call hb21 (row_alloc (row_alloc (row_alloc A1.out _) _) _))
        first | replace C1 := Lib.hid (row_call hb21 C1.out) | replace C1 := Lib.hid (row_call hb21 (row_alloc C1.out _)) | replace C1 := Lib.hid (row_call hb21 (row_alloc (row_alloc C1.out _) _)) | replace C1 := Lib.hid (row_call hb21 (row_alloc (row_alloc (row_alloc C1.out _) _) _))
        clear hb21
        have A1_0 : V21.cell? ⟨w.heap.size, 0, none⟩ = some (.int .i64 y) := cell_of_row _ _ _ _ _ _ A1.out
        have A1_1 : V21.cell? ⟨w.heap.size, 1, none⟩ = some (.int .i64 m) := cell_of_row _ _ _ _ _ _ A1.out
        have A1_2 : V21.cell? ⟨w.heap.size, 2, none⟩ = some (.int .i64 d) := cell_of_row _ _ _ _ _ _ A1.out
        have C1_0 : V21.cell? ⟨w.heap.size + 1, 0, none⟩ = some (.int .i64 Y) := cell_of_row _ _ _ _ _ _ C1.out
        have C1_1 : V21.cell? ⟨w.heap.size + 1, 1, none⟩ = some (.int .i64 M) := cell_of_row _ _ _ _ _ _ C1.out
        have C1_2 : V21.cell? ⟨w.heap.size + 1, 2, none⟩ = some (.int .i64 D) := cell_of_row _ _ _ _ _ _ C1.out
        have zA1 := lt_of_heap A1.out
        have zC1 := lt_of_heap C1.out
        go_simp
        go_wp2
        go_ret2
        exact ⟨rfl, B21.out⟩
      · have HN := Lib.hid (HF.out n (by omega) (by omega))
        
        have A1_0 : V20.cell? ⟨w.heap.size, 0, none⟩ = some (.int .i64 y) := cell_of_row _ _ _ _ _ _ A1.out
        have A1_1 : V20.cell? ⟨w.heap.size, 1, none⟩ = some (.int .i64 m) := cell_of_row _ _ _ _ _ _ A1.out
        have A1_2 : V20.cell? ⟨w.heap.size, 2, none⟩ = some (.int .i64 d) := cell_of_row _ _ _ _ _ _ A1.out
        have zA1 := lt_of_heap A1.out
        have C1_0 : V20.cell? ⟨w.heap.size + 1, 0, none⟩ = some (.int .i64 Y) := cell_of_row _ _ _ _ _ _ C1.out
        have C1_1 : V20.cell? ⟨w.heap.size + 1, 1, none⟩ = some (.int .i64 M) := cell_of_row _ _ _ _ _ _ C1.out
        have C1_2 : V20.cell? ⟨w.heap.size + 1, 2, none⟩ = some (.int .i64 D) := cell_of_row _ _ _ _ _ _ C1.out
        have zC1 := lt_of_heap C1.out
        go_wp2_with fail
        refine (HN.out _).mono ?_
        rintro e V21 ⟨rfl, hb21⟩
        clear A1_0 A1_1 A1_2 zA1 C1_0 C1_1 C1_2 zC1
        have B21 : Hid (Below w.heap.size w V21) := by first | exact Lib.hid ((B20.out).trans (hb21.mono (by have := B20.out.size; first | assumption | (simp <;> omega) | (simp; done)))) | exact Lib.hid (((B20.out).alloc (B20.out.size) _).trans (hb21.mono (by have := B20.out.size; first | assumption | (simp <;> omega) | (simp; done)))) | exact Lib.hid ((((B20.out).alloc (B20.out.size) _).alloc (by have := B20.out.size; simp <;> omega) _).trans (hb21.mono (by have := B20.out.size; first | assumption | (simp <;> omega) | (simp; done)))) | exact Lib.hid (((((B20.out).alloc (B20.out.size) _).alloc (by have := B20.out.size; simp <;> omega) _).alloc (by have := B20.out.size; simp <;> omega) _).trans (hb21.mono (by have := B20.out.size; first | assumption | (simp <;> omega) | (simp; done))))
        first | replace A1 := Lib.hid (row_call hb21 A1.out) | replace A1 := Lib.hid (row_call hb21 (row_alloc A1.out _)) | replace A1 := Lib.hid (row_call hb21 (row_alloc (row_alloc A1.out _) _)) | replace A1 := Lib.hid (row_call hb21 (row_alloc (row_alloc (row_alloc A1.out _) _) _))
        first | replace C1 := Lib.hid (row_call hb21 C1.out) | replace C1 := Lib.hid (row_call hb21 (row_alloc C1.out _)) | replace C1 := Lib.hid (row_call hb21 (row_alloc (row_alloc C1.out _) _)) | replace C1 := Lib.hid (row_call hb21 (row_alloc (row_alloc (row_alloc C1.out _) _) _))
        clear hb21
        have A1_0 : V21.cell? ⟨w.heap.size, 0, none⟩ = some (.int .i64 y) := cell_of_row _ _ _ _ _ _ A1.out
        have A1_1 : V21.cell? ⟨w.heap.size, 1, none⟩ = some (.int .i64 m) := cell_of_row _ _ _ _ _ _ A1.out
        have A1_2 : V21.cell? ⟨w.heap.size, 2, none⟩ = some (.int .i64 d) := cell_of_row _ _ _ _ _ _ A1.out
        have C1_0 : V21.cell? ⟨w.heap.size + 1, 0, none⟩ = some (.int .i64 Y) := cell_of_row _ _ _ _ _ _ C1.out
        have C1_1 : V21.cell? ⟨w.heap.size + 1, 1, none⟩ = some (.int .i64 M) := cell_of_row _ _ _ _ _ _ C1.out
        have C1_2 : V21.cell? ⟨w.heap.size + 1, 2, none⟩ = some (.int .i64 D) := cell_of_row _ _ _ _ _ _ C1.out
        have zA1 := lt_of_heap A1.out
        have zC1 := lt_of_heap C1.out
        go_simp
        go_wp2
        exact ⟨⟨n - 1, by omega, by omega, rfl, A1.out, C1.out, B21.out⟩, by simp [intOf]; omega⟩
    · obtain rfl : n = 0 := by omega
      obtain rfl : K = 0 := by omega
      
      have A1_0 : V20.cell? ⟨w.heap.size, 0, none⟩ = some (.int .i64 y) := cell_of_row _ _ _ _ _ _ A1.out
      have A1_1 : V20.cell? ⟨w.heap.size, 1, none⟩ = some (.int .i64 m) := cell_of_row _ _ _ _ _ _ A1.out
      have A1_2 : V20.cell? ⟨w.heap.size, 2, none⟩ = some (.int .i64 d) := cell_of_row _ _ _ _ _ _ A1.out
      have zA1 := lt_of_heap A1.out
      have C1_0 : V20.cell? ⟨w.heap.size + 1, 0, none⟩ = some (.int .i64 Y) := cell_of_row _ _ _ _ _ _ C1.out
      have C1_1 : V20.cell? ⟨w.heap.size + 1, 1, none⟩ = some (.int .i64 M) := cell_of_row _ _ _ _ _ _ C1.out
      have C1_2 : V20.cell? ⟨w.heap.size + 1, 2, none⟩ = some (.int .i64 D) := cell_of_row _ _ _ _ _ _ C1.out
      have zC1 := lt_of_heap C1.out
      go_wp2
      go_ret2
      exact ⟨rfl, B20.out⟩
set_option maxHeartbeats 3200000 in
set_option maxRecDepth 100000 in
theorem months_dn (y m d Y M D o t K : Int) (y1 : -9999 ≤ y) (y2 : y ≤ 9999) (m1 : 1 ≤ m) (m2 : m ≤ 12) (Y1 : -9999 ≤ Y) (Y2 : Y ≤ 9999) (M1 : 1 ≤ M) (M2 : M ≤ 12) (ht : 12 * (Y - y) + M - m = t) (ho : 0 < o) (hs : t < 0) (k0 : 0 ≤ K) (k1 : K ≤ -t) (k2 : -t ≤ 300000)
    (H1 : Hid (∀ w, Calls Tryd.prog 24 #[.agg #[.int .i64 y, .int .i64 m, .int .i64 d]] w fun e w' => e = .returned (.int .i64 0) ∧ Below w.heap.size w w'))
    (H2 : Hid (∀ w, Calls Tryd.prog 24 #[.agg #[.int .i64 Y, .int .i64 M, .int .i64 D]] w fun e w' => e = .returned (.int .i64 0) ∧ Below w.heap.size w w'))
    (H3 : Hid (∀ w, Calls Tryd.prog 13 #[.agg #[.int .i64 y, .int .i64 m, .int .i64 d], .agg #[.int .i64 Y, .int .i64 M, .int .i64 D]] w fun e w' => e = .returned (.int .i64 o) ∧ Below w.heap.size w w'))
    (HT : Hid (∀ w, Calls Tryd.prog 25 #[.agg #[.int .i64 y, .int .i64 m, .int .i64 d], .agg #[.int .i64 Y, .int .i64 M, .int .i64 D], .int .i64 (-K)] w fun e w' => e = .returned (.bool true) ∧ Below w.heap.size w w'))
    (HF : Hid (∀ n, K < n → n ≤ 400000 → ∀ w, Calls Tryd.prog 25 #[.agg #[.int .i64 y, .int .i64 m, .int .i64 d], .agg #[.int .i64 Y, .int .i64 M, .int .i64 D], .int .i64 (-n)] w fun e w' => e = .returned (.bool false) ∧ Below w.heap.size w w')) (w : World) :
    Calls Tryd.prog 10 #[.agg #[.int .i64 y, .int .i64 m, .int .i64 d], .agg #[.int .i64 Y, .int .i64 M, .int .i64 D]] w fun e w' => e = .returned (.tuple #[.int .i64 (-K), .int .i64 0]) ∧ Below w.heap.size w w' := by
  go_enter Tryd.func10, Tryd.ntmps10
  go_wp2_with fail
  
  refine (H1.out _).mono ?_
  rintro e V1 ⟨rfl, hb1⟩
  have B1 := Lib.hid ((((Below.refl w.heap.size w).alloc (Nat.le_refl _) _).alloc (by simp <;> omega) _).trans (hb1.mono (by first | assumption | (simp <;> omega) | (simp; done))))
  have A1 := Lib.hid (row_call hb1 (row_alloc (heap_alloc_new _ _) _))
  have C1 := Lib.hid (row_at (k' := w.heap.size + 1) (by simp) (row_call hb1 (heap_alloc_new _ _)))
  clear hb1
  have A1_0 : V1.cell? ⟨w.heap.size, 0, none⟩ = some (.int .i64 y) := cell_of_row _ _ _ _ _ _ A1.out
  have A1_1 : V1.cell? ⟨w.heap.size, 1, none⟩ = some (.int .i64 m) := cell_of_row _ _ _ _ _ _ A1.out
  have A1_2 : V1.cell? ⟨w.heap.size, 2, none⟩ = some (.int .i64 d) := cell_of_row _ _ _ _ _ _ A1.out
  have C1_0 : V1.cell? ⟨w.heap.size + 1, 0, none⟩ = some (.int .i64 Y) := cell_of_row _ _ _ _ _ _ C1.out
  have C1_1 : V1.cell? ⟨w.heap.size + 1, 1, none⟩ = some (.int .i64 M) := cell_of_row _ _ _ _ _ _ C1.out
  have C1_2 : V1.cell? ⟨w.heap.size + 1, 2, none⟩ = some (.int .i64 D) := cell_of_row _ _ _ _ _ _ C1.out
  have zA1 := lt_of_heap A1.out
  have zC1 := lt_of_heap C1.out
  go_simp
  go_wp2_with fail
  refine (H2.out _).mono ?_
  rintro e V2 ⟨rfl, hb2⟩
  clear A1_0 A1_1 A1_2 zA1 C1_0 C1_1 C1_2 zC1
  have B2 : Hid (Below w.heap.size w V2) := by first | exact Lib.hid ((B1.out).trans (hb2.mono (by have := B1.out.size; first | assumption | (simp <;> omega) | (simp; done)))) | exact Lib.hid (((B1.out).alloc (B1.out.size) _).trans (hb2.mono (by have := B1.out.size; first | assumption | (simp <;> omega) | (simp; done)))) | exact Lib.hid ((((B1.out).alloc (B1.out.size) _).alloc (by have := B1.out.size; simp <;> omega) _).trans (hb2.mono (by have := B1.out.size; first | assumption | (simp <;> omega) | (simp; done)))) | exact Lib.hid (((((B1.out).alloc (B1.out.size) _).alloc (by have := B1.out.size; simp <;> omega) _).alloc (by have := B1.out.size; simp <;> omega) _).trans (hb2.mono (by have := B1.out.size; first | assumption | (simp <;> omega) | (simp; done))))
  first | replace A1 := Lib.hid (row_call hb2 A1.out) | replace A1 := Lib.hid (row_call hb2 (row_alloc A1.out _)) | replace A1 := Lib.hid (row_call hb2 (row_alloc (row_alloc A1.out _) _)) | replace A1 := Lib.hid (row_call hb2 (row_alloc (row_alloc (row_alloc A1.out _) _) _))
  first | replace C1 := Lib.hid (row_call hb2 C1.out) | replace C1 := Lib.hid (row_call hb2 (row_alloc C1.out _)) | replace C1 := Lib.hid (row_call hb2 (row_alloc (row_alloc C1.out _) _)) | replace C1 := Lib.hid (row_call hb2 (row_alloc (row_alloc (row_alloc C1.out _) _) _))
  clear hb2
  have A1_0 : V2.cell? ⟨w.heap.size, 0, none⟩ = some (.int .i64 y) := cell_of_row _ _ _ _ _ _ A1.out
  have A1_1 : V2.cell? ⟨w.heap.size, 1, none⟩ = some (.int .i64 m) := cell_of_row _ _ _ _ _ _ A1.out
  have A1_2 : V2.cell? ⟨w.heap.size, 2, none⟩ = some (.int .i64 d) := cell_of_row _ _ _ _ _ _ A1.out
  have C1_0 : V2.cell? ⟨w.heap.size + 1, 0, none⟩ = some (.int .i64 Y) := cell_of_row _ _ _ _ _ _ C1.out
  have C1_1 : V2.cell? ⟨w.heap.size + 1, 1, none⟩ = some (.int .i64 M) := cell_of_row _ _ _ _ _ _ C1.out
  have C1_2 : V2.cell? ⟨w.heap.size + 1, 2, none⟩ = some (.int .i64 D) := cell_of_row _ _ _ _ _ _ C1.out
  have zA1 := lt_of_heap A1.out
  have zC1 := lt_of_heap C1.out
  go_simp
  go_wp2_with fail
  refine (H3.out _).mono ?_
  rintro e V3 ⟨rfl, hb3⟩
  clear A1_0 A1_1 A1_2 zA1 C1_0 C1_1 C1_2 zC1
  have B3 : Hid (Below w.heap.size w V3) := by first | exact Lib.hid ((B2.out).trans (hb3.mono (by have := B2.out.size; first | assumption | (simp <;> omega) | (simp; done)))) | exact Lib.hid (((B2.out).alloc (B2.out.size) _).trans (hb3.mono (by have := B2.out.size; first | assumption | (simp <;> omega) | (simp; done)))) | exact Lib.hid ((((B2.out).alloc (B2.out.size) _).alloc (by have := B2.out.size; simp <;> omega) _).trans (hb3.mono (by have := B2.out.size; first | assumption | (simp <;> omega) | (simp; done)))) | exact Lib.hid (((((B2.out).alloc (B2.out.size) _).alloc (by have := B2.out.size; simp <;> omega) _).alloc (by have := B2.out.size; simp <;> omega) _).trans (hb3.mono (by have := B2.out.size; first | assumption | (simp <;> omega) | (simp; done))))
  first | replace A1 := Lib.hid (row_call hb3 A1.out) | replace A1 := Lib.hid (row_call hb3 (row_alloc A1.out _)) | replace A1 := Lib.hid (row_call hb3 (row_alloc (row_alloc A1.out _) _)) | replace A1 := Lib.hid (row_call hb3 (row_alloc (row_alloc (row_alloc A1.out _) _) _))
  first | replace C1 := Lib.hid (row_call hb3 C1.out) | replace C1 := Lib.hid (row_call hb3 (row_alloc C1.out _)) | replace C1 := Lib.hid (row_call hb3 (row_alloc (row_alloc C1.out _) _)) | replace C1 := Lib.hid (row_call hb3 (row_alloc (row_alloc (row_alloc C1.out _) _) _))
  clear hb3
  have A1_0 : V3.cell? ⟨w.heap.size, 0, none⟩ = some (.int .i64 y) := cell_of_row _ _ _ _ _ _ A1.out
  have A1_1 : V3.cell? ⟨w.heap.size, 1, none⟩ = some (.int .i64 m) := cell_of_row _ _ _ _ _ _ A1.out
  have A1_2 : V3.cell? ⟨w.heap.size, 2, none⟩ = some (.int .i64 d) := cell_of_row _ _ _ _ _ _ A1.out
  have C1_0 : V3.cell? ⟨w.heap.size + 1, 0, none⟩ = some (.int .i64 Y) := cell_of_row _ _ _ _ _ _ C1.out
  have C1_1 : V3.cell? ⟨w.heap.size + 1, 1, none⟩ = some (.int .i64 M) := cell_of_row _ _ _ _ _ _ C1.out
  have C1_2 : V3.cell? ⟨w.heap.size + 1, 2, none⟩ = some (.int .i64 D) := cell_of_row _ _ _ _ _ _ C1.out
  have zA1 := lt_of_heap A1.out
  have zC1 := lt_of_heap C1.out
  go_simp
  go_wp2_with fail
  have HR : Hid (UnR y m d Y M D w V3) := Lib.hid ⟨A1.out, C1.out, B3.out⟩
  clear A1_0 A1_1 A1_2 C1_0 C1_1 C1_2 zA1 zC1 A1 C1 B1 B2 B3 H1 H2 H3
  go_loopw [9] (fun s9 wr => ∃ n : Int, K ≤ n ∧ n ≤ -t + 1 ∧ s9 = .int .i64 n ∧ UnR y m d Y M D w wr) (fun s9 _ => (intOf s9).toNat)
  case atStart => exact ⟨-t + 1, by omega, by omega, rfl, HR.out⟩
  case round =>
    obtain ⟨n, n1, n2, rfl, hX⟩ := hrel
    clear HR
    obtain ⟨V20, rfl⟩ : ∃ V, V = wr := ⟨_, rfl⟩
    have A1 := Lib.hid hX.fa
    have C1 := Lib.hid hX.fb
    have B20 := Lib.hid hX.fw
    clear hX
    by_cases h0 : 0 < n
    · by_cases hk : n = K
      · subst hk
        
        have A1_0 : V20.cell? ⟨w.heap.size, 0, none⟩ = some (.int .i64 y) := cell_of_row _ _ _ _ _ _ A1.out
        have A1_1 : V20.cell? ⟨w.heap.size, 1, none⟩ = some (.int .i64 m) := cell_of_row _ _ _ _ _ _ A1.out
        have A1_2 : V20.cell? ⟨w.heap.size, 2, none⟩ = some (.int .i64 d) := cell_of_row _ _ _ _ _ _ A1.out
        have zA1 := lt_of_heap A1.out
        have C1_0 : V20.cell? ⟨w.heap.size + 1, 0, none⟩ = some (.int .i64 Y) := cell_of_row _ _ _ _ _ _ C1.out
        have C1_1 : V20.cell? ⟨w.heap.size + 1, 1, none⟩ = some (.int .i64 M) := cell_of_row _ _ _ _ _ _ C1.out
        have C1_2 : V20.cell? ⟨w.heap.size + 1, 2, none⟩ = some (.int .i64 D) := cell_of_row _ _ _ _ _ _ C1.out
        have zC1 := lt_of_heap C1.out
        go_wp2_with fail
        refine (HT.out _).mono ?_
        rintro e V21 ⟨rfl, hb21⟩
        clear A1_0 A1_1 A1_2 zA1 C1_0 C1_1 C1_2 zC1
        have B21 : Hid (Below w.heap.size w V21) := by first | exact Lib.hid ((B20.out).trans (hb21.mono (by have := B20.out.size; first | assumption | (simp <;> omega) | (simp; done)))) | exact Lib.hid (((B20.out).alloc (B20.out.size) _).trans (hb21.mono (by have := B20.out.size; first | assumption | (simp <;> omega) | (simp; done)))) | exact Lib.hid ((((B20.out).alloc (B20.out.size) _).alloc (by have := B20.out.size; simp <;> omega) _).trans (hb21.mono (by have := B20.out.size; first | assumption | (simp <;> omega) | (simp; done)))) | exact Lib.hid (((((B20.out).alloc (B20.out.size) _).alloc (by have := B20.out.size; simp <;> omega) _).alloc (by have := B20.out.size; simp <;> omega) _).trans (hb21.mono (by have := B20.out.size; first | assumption | (simp <;> omega) | (simp; done))))
        first | replace A1 := Lib.hid (row_call hb21 A1.out) | replace A1 := Lib.hid (row_call hb21 (row_alloc A1.out _)) | replace A1 := Lib.hid (row_call hb21 (row_alloc (row_alloc A1.out _) _)) | replace A1 := Lib.hid (row_call hb21 (row_alloc (row_alloc (row_alloc A1.out _) _) _))
        first | replace C1 := Lib.hid (row_call hb21 C1.out) | replace C1 := Lib.hid (row_call hb21 (row_alloc C1.out _)) | replace C1 := Lib.hid (row_call hb21 (row_alloc (row_alloc C1.out _) _)) | replace C1 := Lib.hid (row_call hb21 (row_alloc (row_alloc (row_alloc C1.out _) _) _))
        clear hb21
        have A1_0 : V21.cell? ⟨w.heap.size, 0, none⟩ = some (.int .i64 y) := cell_of_row _ _ _ _ _ _ A1.out
        have A1_1 : V21.cell? ⟨w.heap.size, 1, none⟩ = some (.int .i64 m) := cell_of_row _ _ _ _ _ _ A1.out
        have A1_2 : V21.cell? ⟨w.heap.size, 2, none⟩ = some (.int .i64 d) := cell_of_row _ _ _ _ _ _ A1.out
        have C1_0 : V21.cell? ⟨w.heap.size + 1, 0, none⟩ = some (.int .i64 Y) := cell_of_row _ _ _ _ _ _ C1.out
        have C1_1 : V21.cell? ⟨w.heap.size + 1, 1, none⟩ = some (.int .i64 M) := cell_of_row _ _ _ _ _ _ C1.out
        have C1_2 : V21.cell? ⟨w.heap.size + 1, 2, none⟩ = some (.int .i64 D) := cell_of_row _ _ _ _ _ _ C1.out
        have zA1 := lt_of_heap A1.out
        have zC1 := lt_of_heap C1.out
        go_simp
        go_wp2
        go_ret2
        exact ⟨rfl, B21.out⟩
      · have HN := Lib.hid (HF.out n (by omega) (by omega))
        
        have A1_0 : V20.cell? ⟨w.heap.size, 0, none⟩ = some (.int .i64 y) := cell_of_row _ _ _ _ _ _ A1.out
        have A1_1 : V20.cell? ⟨w.heap.size, 1, none⟩ = some (.int .i64 m) := cell_of_row _ _ _ _ _ _ A1.out
        have A1_2 : V20.cell? ⟨w.heap.size, 2, none⟩ = some (.int .i64 d) := cell_of_row _ _ _ _ _ _ A1.out
        have zA1 := lt_of_heap A1.out
        have C1_0 : V20.cell? ⟨w.heap.size + 1, 0, none⟩ = some (.int .i64 Y) := cell_of_row _ _ _ _ _ _ C1.out
        have C1_1 : V20.cell? ⟨w.heap.size + 1, 1, none⟩ = some (.int .i64 M) := cell_of_row _ _ _ _ _ _ C1.out
        have C1_2 : V20.cell? ⟨w.heap.size + 1, 2, none⟩ = some (.int .i64 D) := cell_of_row _ _ _ _ _ _ C1.out
        have zC1 := lt_of_heap C1.out
        go_wp2_with fail
        refine (HN.out _).mono ?_
        rintro e V21 ⟨rfl, hb21⟩
        clear A1_0 A1_1 A1_2 zA1 C1_0 C1_1 C1_2 zC1
        have B21 : Hid (Below w.heap.size w V21) := by first | exact Lib.hid ((B20.out).trans (hb21.mono (by have := B20.out.size; first | assumption | (simp <;> omega) | (simp; done)))) | exact Lib.hid (((B20.out).alloc (B20.out.size) _).trans (hb21.mono (by have := B20.out.size; first | assumption | (simp <;> omega) | (simp; done)))) | exact Lib.hid ((((B20.out).alloc (B20.out.size) _).alloc (by have := B20.out.size; simp <;> omega) _).trans (hb21.mono (by have := B20.out.size; first | assumption | (simp <;> omega) | (simp; done)))) | exact Lib.hid (((((B20.out).alloc (B20.out.size) _).alloc (by have := B20.out.size; simp <;> omega) _).alloc (by have := B20.out.size; simp <;> omega) _).trans (hb21.mono (by have := B20.out.size; first | assumption | (simp <;> omega) | (simp; done))))
        first | replace A1 := Lib.hid (row_call hb21 A1.out) | replace A1 := Lib.hid (row_call hb21 (row_alloc A1.out _)) | replace A1 := Lib.hid (row_call hb21 (row_alloc (row_alloc A1.out _) _)) | replace A1 := Lib.hid (row_call hb21 (row_alloc (row_alloc (row_alloc A1.out _) _) _))
        first | replace C1 := Lib.hid (row_call hb21 C1.out) | replace C1 := Lib.hid (row_call hb21 (row_alloc C1.out _)) | replace C1 := Lib.hid (row_call hb21 (row_alloc (row_alloc C1.out _) _)) | replace C1 := Lib.hid (row_call hb21 (row_alloc (row_alloc (row_alloc C1.out _) _) _))
        clear hb21
        have A1_0 : V21.cell? ⟨w.heap.size, 0, none⟩ = some (.int .i64 y) := cell_of_row _ _ _ _ _ _ A1.out
        have A1_1 : V21.cell? ⟨w.heap.size, 1, none⟩ = some (.int .i64 m) := cell_of_row _ _ _ _ _ _ A1.out
        have A1_2 : V21.cell? ⟨w.heap.size, 2, none⟩ = some (.int .i64 d) := cell_of_row _ _ _ _ _ _ A1.out
        have C1_0 : V21.cell? ⟨w.heap.size + 1, 0, none⟩ = some (.int .i64 Y) := cell_of_row _ _ _ _ _ _ C1.out
        have C1_1 : V21.cell? ⟨w.heap.size + 1, 1, none⟩ = some (.int .i64 M) := cell_of_row _ _ _ _ _ _ C1.out
        have C1_2 : V21.cell? ⟨w.heap.size + 1, 2, none⟩ = some (.int .i64 D) := cell_of_row _ _ _ _ _ _ C1.out
        have zA1 := lt_of_heap A1.out
        have zC1 := lt_of_heap C1.out
        go_simp
        go_wp2
        exact ⟨⟨n - 1, by omega, by omega, rfl, A1.out, C1.out, B21.out⟩, by simp [intOf]; omega⟩
    · obtain rfl : n = 0 := by omega
      obtain rfl : K = 0 := by omega
      
      have A1_0 : V20.cell? ⟨w.heap.size, 0, none⟩ = some (.int .i64 y) := cell_of_row _ _ _ _ _ _ A1.out
      have A1_1 : V20.cell? ⟨w.heap.size, 1, none⟩ = some (.int .i64 m) := cell_of_row _ _ _ _ _ _ A1.out
      have A1_2 : V20.cell? ⟨w.heap.size, 2, none⟩ = some (.int .i64 d) := cell_of_row _ _ _ _ _ _ A1.out
      have zA1 := lt_of_heap A1.out
      have C1_0 : V20.cell? ⟨w.heap.size + 1, 0, none⟩ = some (.int .i64 Y) := cell_of_row _ _ _ _ _ _ C1.out
      have C1_1 : V20.cell? ⟨w.heap.size + 1, 1, none⟩ = some (.int .i64 M) := cell_of_row _ _ _ _ _ _ C1.out
      have C1_2 : V20.cell? ⟨w.heap.size + 1, 2, none⟩ = some (.int .i64 D) := cell_of_row _ _ _ _ _ _ C1.out
      have zC1 := lt_of_heap C1.out
      go_wp2
      go_ret2
      exact ⟨rfl, B20.out⟩
set_option maxHeartbeats 3200000 in
set_option maxRecDepth 100000 in
theorem months_d0 (y m d Y M D o t K : Int) (y1 : -9999 ≤ y) (y2 : y ≤ 9999) (m1 : 1 ≤ m) (m2 : m ≤ 12) (Y1 : -9999 ≤ Y) (Y2 : Y ≤ 9999) (M1 : 1 ≤ M) (M2 : M ≤ 12) (ht : 12 * (Y - y) + M - m = t) (ho : 0 < o) (hs : t = 0) (k0 : 0 ≤ K) (k1 : K ≤ 0) (k2 : 0 ≤ 300000)
    (H1 : Hid (∀ w, Calls Tryd.prog 24 #[.agg #[.int .i64 y, .int .i64 m, .int .i64 d]] w fun e w' => e = .returned (.int .i64 0) ∧ Below w.heap.size w w'))
    (H2 : Hid (∀ w, Calls Tryd.prog 24 #[.agg #[.int .i64 Y, .int .i64 M, .int .i64 D]] w fun e w' => e = .returned (.int .i64 0) ∧ Below w.heap.size w w'))
    (H3 : Hid (∀ w, Calls Tryd.prog 13 #[.agg #[.int .i64 y, .int .i64 m, .int .i64 d], .agg #[.int .i64 Y, .int .i64 M, .int .i64 D]] w fun e w' => e = .returned (.int .i64 o) ∧ Below w.heap.size w w'))
    (HT : Hid (∀ w, Calls Tryd.prog 25 #[.agg #[.int .i64 y, .int .i64 m, .int .i64 d], .agg #[.int .i64 Y, .int .i64 M, .int .i64 D], .int .i64 (-K)] w fun e w' => e = .returned (.bool true) ∧ Below w.heap.size w w'))
    (HF : Hid (∀ n, K < n → n ≤ 400000 → ∀ w, Calls Tryd.prog 25 #[.agg #[.int .i64 y, .int .i64 m, .int .i64 d], .agg #[.int .i64 Y, .int .i64 M, .int .i64 D], .int .i64 (-n)] w fun e w' => e = .returned (.bool false) ∧ Below w.heap.size w w')) (w : World) :
    Calls Tryd.prog 10 #[.agg #[.int .i64 y, .int .i64 m, .int .i64 d], .agg #[.int .i64 Y, .int .i64 M, .int .i64 D]] w fun e w' => e = .returned (.tuple #[.int .i64 (-K), .int .i64 0]) ∧ Below w.heap.size w w' := by
  go_enter Tryd.func10, Tryd.ntmps10
  go_wp2_with fail
  
  refine (H1.out _).mono ?_
  rintro e V1 ⟨rfl, hb1⟩
  have B1 := Lib.hid ((((Below.refl w.heap.size w).alloc (Nat.le_refl _) _).alloc (by simp <;> omega) _).trans (hb1.mono (by first | assumption | (simp <;> omega) | (simp; done))))
  have A1 := Lib.hid (row_call hb1 (row_alloc (heap_alloc_new _ _) _))
  have C1 := Lib.hid (row_at (k' := w.heap.size + 1) (by simp) (row_call hb1 (heap_alloc_new _ _)))
  clear hb1
  have A1_0 : V1.cell? ⟨w.heap.size, 0, none⟩ = some (.int .i64 y) := cell_of_row _ _ _ _ _ _ A1.out
  have A1_1 : V1.cell? ⟨w.heap.size, 1, none⟩ = some (.int .i64 m) := cell_of_row _ _ _ _ _ _ A1.out
  have A1_2 : V1.cell? ⟨w.heap.size, 2, none⟩ = some (.int .i64 d) := cell_of_row _ _ _ _ _ _ A1.out
  have C1_0 : V1.cell? ⟨w.heap.size + 1, 0, none⟩ = some (.int .i64 Y) := cell_of_row _ _ _ _ _ _ C1.out
  have C1_1 : V1.cell? ⟨w.heap.size + 1, 1, none⟩ = some (.int .i64 M) := cell_of_row _ _ _ _ _ _ C1.out
  have C1_2 : V1.cell? ⟨w.heap.size + 1, 2, none⟩ = some (.int .i64 D) := cell_of_row _ _ _ _ _ _ C1.out
  have zA1 := lt_of_heap A1.out
  have zC1 := lt_of_heap C1.out
  go_simp
  go_wp2_with fail
  refine (H2.out _).mono ?_
  rintro e V2 ⟨rfl, hb2⟩
  clear A1_0 A1_1 A1_2 zA1 C1_0 C1_1 C1_2 zC1
  have B2 : Hid (Below w.heap.size w V2) := by first | exact Lib.hid ((B1.out).trans (hb2.mono (by have := B1.out.size; first | assumption | (simp <;> omega) | (simp; done)))) | exact Lib.hid (((B1.out).alloc (B1.out.size) _).trans (hb2.mono (by have := B1.out.size; first | assumption | (simp <;> omega) | (simp; done)))) | exact Lib.hid ((((B1.out).alloc (B1.out.size) _).alloc (by have := B1.out.size; simp <;> omega) _).trans (hb2.mono (by have := B1.out.size; first | assumption | (simp <;> omega) | (simp; done)))) | exact Lib.hid (((((B1.out).alloc (B1.out.size) _).alloc (by have := B1.out.size; simp <;> omega) _).alloc (by have := B1.out.size; simp <;> omega) _).trans (hb2.mono (by have := B1.out.size; first | assumption | (simp <;> omega) | (simp; done))))
  first | replace A1 := Lib.hid (row_call hb2 A1.out) | replace A1 := Lib.hid (row_call hb2 (row_alloc A1.out _)) | replace A1 := Lib.hid (row_call hb2 (row_alloc (row_alloc A1.out _) _)) | replace A1 := Lib.hid (row_call hb2 (row_alloc (row_alloc (row_alloc A1.out _) _) _))
  first | replace C1 := Lib.hid (row_call hb2 C1.out) | replace C1 := Lib.hid (row_call hb2 (row_alloc C1.out _)) | replace C1 := Lib.hid (row_call hb2 (row_alloc (row_alloc C1.out _) _)) | replace C1 := Lib.hid (row_call hb2 (row_alloc (row_alloc (row_alloc C1.out _) _) _))
  clear hb2
  have A1_0 : V2.cell? ⟨w.heap.size, 0, none⟩ = some (.int .i64 y) := cell_of_row _ _ _ _ _ _ A1.out
  have A1_1 : V2.cell? ⟨w.heap.size, 1, none⟩ = some (.int .i64 m) := cell_of_row _ _ _ _ _ _ A1.out
  have A1_2 : V2.cell? ⟨w.heap.size, 2, none⟩ = some (.int .i64 d) := cell_of_row _ _ _ _ _ _ A1.out
  have C1_0 : V2.cell? ⟨w.heap.size + 1, 0, none⟩ = some (.int .i64 Y) := cell_of_row _ _ _ _ _ _ C1.out
  have C1_1 : V2.cell? ⟨w.heap.size + 1, 1, none⟩ = some (.int .i64 M) := cell_of_row _ _ _ _ _ _ C1.out
  have C1_2 : V2.cell? ⟨w.heap.size + 1, 2, none⟩ = some (.int .i64 D) := cell_of_row _ _ _ _ _ _ C1.out
  have zA1 := lt_of_heap A1.out
  have zC1 := lt_of_heap C1.out
  go_simp
  go_wp2_with fail
  refine (H3.out _).mono ?_
  rintro e V3 ⟨rfl, hb3⟩
  clear A1_0 A1_1 A1_2 zA1 C1_0 C1_1 C1_2 zC1
  have B3 : Hid (Below w.heap.size w V3) := by first | exact Lib.hid ((B2.out).trans (hb3.mono (by have := B2.out.size; first | assumption | (simp <;> omega) | (simp; done)))) | exact Lib.hid (((B2.out).alloc (B2.out.size) _).trans (hb3.mono (by have := B2.out.size; first | assumption | (simp <;> omega) | (simp; done)))) | exact Lib.hid ((((B2.out).alloc (B2.out.size) _).alloc (by have := B2.out.size; simp <;> omega) _).trans (hb3.mono (by have := B2.out.size; first | assumption | (simp <;> omega) | (simp; done)))) | exact Lib.hid (((((B2.out).alloc (B2.out.size) _).alloc (by have := B2.out.size; simp <;> omega) _).alloc (by have := B2.out.size; simp <;> omega) _).trans (hb3.mono (by have := B2.out.size; first | assumption | (simp <;> omega) | (simp; done))))
  first | replace A1 := Lib.hid (row_call hb3 A1.out) | replace A1 := Lib.hid (row_call hb3 (row_alloc A1.out _)) | replace A1 := Lib.hid (row_call hb3 (row_alloc (row_alloc A1.out _) _)) | replace A1 := Lib.hid (row_call hb3 (row_alloc (row_alloc (row_alloc A1.out _) _) _))
  first | replace C1 := Lib.hid (row_call hb3 C1.out) | replace C1 := Lib.hid (row_call hb3 (row_alloc C1.out _)) | replace C1 := Lib.hid (row_call hb3 (row_alloc (row_alloc C1.out _) _)) | replace C1 := Lib.hid (row_call hb3 (row_alloc (row_alloc (row_alloc C1.out _) _) _))
  clear hb3
  have A1_0 : V3.cell? ⟨w.heap.size, 0, none⟩ = some (.int .i64 y) := cell_of_row _ _ _ _ _ _ A1.out
  have A1_1 : V3.cell? ⟨w.heap.size, 1, none⟩ = some (.int .i64 m) := cell_of_row _ _ _ _ _ _ A1.out
  have A1_2 : V3.cell? ⟨w.heap.size, 2, none⟩ = some (.int .i64 d) := cell_of_row _ _ _ _ _ _ A1.out
  have C1_0 : V3.cell? ⟨w.heap.size + 1, 0, none⟩ = some (.int .i64 Y) := cell_of_row _ _ _ _ _ _ C1.out
  have C1_1 : V3.cell? ⟨w.heap.size + 1, 1, none⟩ = some (.int .i64 M) := cell_of_row _ _ _ _ _ _ C1.out
  have C1_2 : V3.cell? ⟨w.heap.size + 1, 2, none⟩ = some (.int .i64 D) := cell_of_row _ _ _ _ _ _ C1.out
  have zA1 := lt_of_heap A1.out
  have zC1 := lt_of_heap C1.out
  go_simp
  go_wp2_with fail
  have HR : Hid (UnR y m d Y M D w V3) := Lib.hid ⟨A1.out, C1.out, B3.out⟩
  clear A1_0 A1_1 A1_2 C1_0 C1_1 C1_2 zA1 zC1 A1 C1 B1 B2 B3 H1 H2 H3
  go_loopw [9] (fun s9 wr => ∃ n : Int, K ≤ n ∧ n ≤ 0 + 1 ∧ s9 = .int .i64 n ∧ UnR y m d Y M D w wr) (fun s9 _ => (intOf s9).toNat)
  case atStart => exact ⟨0 + 1, by omega, by omega, rfl, HR.out⟩
  case round =>
    obtain ⟨n, n1, n2, rfl, hX⟩ := hrel
    clear HR
    obtain ⟨V20, rfl⟩ : ∃ V, V = wr := ⟨_, rfl⟩
    have A1 := Lib.hid hX.fa
    have C1 := Lib.hid hX.fb
    have B20 := Lib.hid hX.fw
    clear hX
    by_cases h0 : 0 < n
    · by_cases hk : n = K
      · subst hk
        
        have A1_0 : V20.cell? ⟨w.heap.size, 0, none⟩ = some (.int .i64 y) := cell_of_row _ _ _ _ _ _ A1.out
        have A1_1 : V20.cell? ⟨w.heap.size, 1, none⟩ = some (.int .i64 m) := cell_of_row _ _ _ _ _ _ A1.out
        have A1_2 : V20.cell? ⟨w.heap.size, 2, none⟩ = some (.int .i64 d) := cell_of_row _ _ _ _ _ _ A1.out
        have zA1 := lt_of_heap A1.out
        have C1_0 : V20.cell? ⟨w.heap.size + 1, 0, none⟩ = some (.int .i64 Y) := cell_of_row _ _ _ _ _ _ C1.out
        have C1_1 : V20.cell? ⟨w.heap.size + 1, 1, none⟩ = some (.int .i64 M) := cell_of_row _ _ _ _ _ _ C1.out
        have C1_2 : V20.cell? ⟨w.heap.size + 1, 2, none⟩ = some (.int .i64 D) := cell_of_row _ _ _ _ _ _ C1.out
        have zC1 := lt_of_heap C1.out
        go_wp2_with fail
        refine (HT.out _).mono ?_
        rintro e V21 ⟨rfl, hb21⟩
        clear A1_0 A1_1 A1_2 zA1 C1_0 C1_1 C1_2 zC1
        have B21 : Hid (Below w.heap.size w V21) := by first | exact Lib.hid ((B20.out).trans (hb21.mono (by have := B20.out.size; first | assumption | (simp <;> omega) | (simp; done)))) | exact Lib.hid (((B20.out).alloc (B20.out.size) _).trans (hb21.mono (by have := B20.out.size; first | assumption | (simp <;> omega) | (simp; done)))) | exact Lib.hid ((((B20.out).alloc (B20.out.size) _).alloc (by have := B20.out.size; simp <;> omega) _).trans (hb21.mono (by have := B20.out.size; first | assumption | (simp <;> omega) | (simp; done)))) | exact Lib.hid (((((B20.out).alloc (B20.out.size) _).alloc (by have := B20.out.size; simp <;> omega) _).alloc (by have := B20.out.size; simp <;> omega) _).trans (hb21.mono (by have := B20.out.size; first | assumption | (simp <;> omega) | (simp; done))))
        first | replace A1 := Lib.hid (row_call hb21 A1.out) | replace A1 := Lib.hid (row_call hb21 (row_alloc A1.out _)) | replace A1 := Lib.hid (row_call hb21 (row_alloc (row_alloc A1.out _) _)) | replace A1 := Lib.hid (row_call hb21 (row_alloc (row_alloc (row_alloc A1.out _) _) _))
        first | replace C1 := Lib.hid (row_call hb21 C1.out) | replace C1 := Lib.hid (row_call hb21 (row_alloc C1.out _)) | replace C1 := Lib.hid (row_call hb21 (row_alloc (row_alloc C1.out _) _)) | replace C1 := Lib.hid (row_call hb21 (row_alloc (row_alloc (row_alloc C1.out _) _) _))
        clear hb21
        have A1_0 : V21.cell? ⟨w.heap.size, 0, none⟩ = some (.int .i64 y) := cell_of_row _ _ _ _ _ _ A1.out
        have A1_1 : V21.cell? ⟨w.heap.size, 1, none⟩ = some (.int .i64 m) := cell_of_row _ _ _ _ _ _ A1.out
        have A1_2 : V21.cell? ⟨w.heap.size, 2, none⟩ = some (.int .i64 d) := cell_of_row _ _ _ _ _ _ A1.out
        have C1_0 : V21.cell? ⟨w.heap.size + 1, 0, none⟩ = some (.int .i64 Y) := cell_of_row _ _ _ _ _ _ C1.out
        have C1_1 : V21.cell? ⟨w.heap.size + 1, 1, none⟩ = some (.int .i64 M) := cell_of_row _ _ _ _ _ _ C1.out
        have C1_2 : V21.cell? ⟨w.heap.size + 1, 2, none⟩ = some (.int .i64 D) := cell_of_row _ _ _ _ _ _ C1.out
        have zA1 := lt_of_heap A1.out
        have zC1 := lt_of_heap C1.out
        go_simp
        go_wp2
        go_ret2
        exact ⟨rfl, B21.out⟩
      · have HN := Lib.hid (HF.out n (by omega) (by omega))
        
        have A1_0 : V20.cell? ⟨w.heap.size, 0, none⟩ = some (.int .i64 y) := cell_of_row _ _ _ _ _ _ A1.out
        have A1_1 : V20.cell? ⟨w.heap.size, 1, none⟩ = some (.int .i64 m) := cell_of_row _ _ _ _ _ _ A1.out
        have A1_2 : V20.cell? ⟨w.heap.size, 2, none⟩ = some (.int .i64 d) := cell_of_row _ _ _ _ _ _ A1.out
        have zA1 := lt_of_heap A1.out
        have C1_0 : V20.cell? ⟨w.heap.size + 1, 0, none⟩ = some (.int .i64 Y) := cell_of_row _ _ _ _ _ _ C1.out
        have C1_1 : V20.cell? ⟨w.heap.size + 1, 1, none⟩ = some (.int .i64 M) := cell_of_row _ _ _ _ _ _ C1.out
        have C1_2 : V20.cell? ⟨w.heap.size + 1, 2, none⟩ = some (.int .i64 D) := cell_of_row _ _ _ _ _ _ C1.out
        have zC1 := lt_of_heap C1.out
        go_wp2_with fail
        refine (HN.out _).mono ?_
        rintro e V21 ⟨rfl, hb21⟩
        clear A1_0 A1_1 A1_2 zA1 C1_0 C1_1 C1_2 zC1
        have B21 : Hid (Below w.heap.size w V21) := by first | exact Lib.hid ((B20.out).trans (hb21.mono (by have := B20.out.size; first | assumption | (simp <;> omega) | (simp; done)))) | exact Lib.hid (((B20.out).alloc (B20.out.size) _).trans (hb21.mono (by have := B20.out.size; first | assumption | (simp <;> omega) | (simp; done)))) | exact Lib.hid ((((B20.out).alloc (B20.out.size) _).alloc (by have := B20.out.size; simp <;> omega) _).trans (hb21.mono (by have := B20.out.size; first | assumption | (simp <;> omega) | (simp; done)))) | exact Lib.hid (((((B20.out).alloc (B20.out.size) _).alloc (by have := B20.out.size; simp <;> omega) _).alloc (by have := B20.out.size; simp <;> omega) _).trans (hb21.mono (by have := B20.out.size; first | assumption | (simp <;> omega) | (simp; done))))
        first | replace A1 := Lib.hid (row_call hb21 A1.out) | replace A1 := Lib.hid (row_call hb21 (row_alloc A1.out _)) | replace A1 := Lib.hid (row_call hb21 (row_alloc (row_alloc A1.out _) _)) | replace A1 := Lib.hid (row_call hb21 (row_alloc (row_alloc (row_alloc A1.out _) _) _))
        first | replace C1 := Lib.hid (row_call hb21 C1.out) | replace C1 := Lib.hid (row_call hb21 (row_alloc C1.out _)) | replace C1 := Lib.hid (row_call hb21 (row_alloc (row_alloc C1.out _) _)) | replace C1 := Lib.hid (row_call hb21 (row_alloc (row_alloc (row_alloc C1.out _) _) _))
        clear hb21
        have A1_0 : V21.cell? ⟨w.heap.size, 0, none⟩ = some (.int .i64 y) := cell_of_row _ _ _ _ _ _ A1.out
        have A1_1 : V21.cell? ⟨w.heap.size, 1, none⟩ = some (.int .i64 m) := cell_of_row _ _ _ _ _ _ A1.out
        have A1_2 : V21.cell? ⟨w.heap.size, 2, none⟩ = some (.int .i64 d) := cell_of_row _ _ _ _ _ _ A1.out
        have C1_0 : V21.cell? ⟨w.heap.size + 1, 0, none⟩ = some (.int .i64 Y) := cell_of_row _ _ _ _ _ _ C1.out
        have C1_1 : V21.cell? ⟨w.heap.size + 1, 1, none⟩ = some (.int .i64 M) := cell_of_row _ _ _ _ _ _ C1.out
        have C1_2 : V21.cell? ⟨w.heap.size + 1, 2, none⟩ = some (.int .i64 D) := cell_of_row _ _ _ _ _ _ C1.out
        have zA1 := lt_of_heap A1.out
        have zC1 := lt_of_heap C1.out
        go_simp
        go_wp2
        exact ⟨⟨n - 1, by omega, by omega, rfl, A1.out, C1.out, B21.out⟩, by simp [intOf]; omega⟩
    · obtain rfl : n = 0 := by omega
      obtain rfl : K = 0 := by omega
      
      have A1_0 : V20.cell? ⟨w.heap.size, 0, none⟩ = some (.int .i64 y) := cell_of_row _ _ _ _ _ _ A1.out
      have A1_1 : V20.cell? ⟨w.heap.size, 1, none⟩ = some (.int .i64 m) := cell_of_row _ _ _ _ _ _ A1.out
      have A1_2 : V20.cell? ⟨w.heap.size, 2, none⟩ = some (.int .i64 d) := cell_of_row _ _ _ _ _ _ A1.out
      have zA1 := lt_of_heap A1.out
      have C1_0 : V20.cell? ⟨w.heap.size + 1, 0, none⟩ = some (.int .i64 Y) := cell_of_row _ _ _ _ _ _ C1.out
      have C1_1 : V20.cell? ⟨w.heap.size + 1, 1, none⟩ = some (.int .i64 M) := cell_of_row _ _ _ _ _ _ C1.out
      have C1_2 : V20.cell? ⟨w.heap.size + 1, 2, none⟩ = some (.int .i64 D) := cell_of_row _ _ _ _ _ _ C1.out
      have zC1 := lt_of_heap C1.out
      go_wp2
      go_ret2
      exact ⟨rfl, B20.out⟩
end Go.Proofs.YtoopbgpoelpjfaaDoor
namespace Go.Proofs.YtoopbgpoelpjfaaDoor
set_option linter.unusedVariables false
set_option linter.unusedSimpArgs false
open Go.ChangeShapes Go.WideShapes Go.ChangeAt Go.RowKit
theorem unN_bd {y m d Y M D : Int} (ha : ckC y m d = 0) (hb : ckC Y M D = 0) : -300000 ≤ unN y m d Y M D ∧ unN y m d Y M D ≤ 300000 ∧ -9999 ≤ moY y m (unN y m d Y M D) ∧ moY y m (unN y m d Y M D) ≤ 9999 := by
  have hin : ftB y m d Y M D (unN y m d Y M D) = true := by
    by_cases ho : ord3 y m d Y M D ≤ 0
    · exact (un_up ha hb ho).2.2.2.1
    · exact (un_down ha hb ho).2.2.2.1
  have hr : -9999 ≤ moY y m (unN y m d Y M D) ∧ moY y m (unN y m d Y M D) ≤ 9999 := by
    unfold ftB at hin
    simp only [Bool.and_eq_true, decide_eq_true_eq] at hin
    exact hin.1
  obtain ⟨hm, y1, y2⟩ := of_ckC ha
  obtain ⟨p1, p2, p3, p4, p5⟩ := mayB_yes hm
  obtain ⟨a, b, c⟩ := mo_T y m (unN y m d Y M D)
  unfold uT at a
  exact ⟨by omega, by omega, hr.1, hr.2⟩
theorem ruMonths_any (y m d Y M D : Int) (h : unE y m d Y M D = 0) (w : World) : Calls Tryd.prog 10 #[.agg #[.int .i64 y, .int .i64 m, .int .i64 d], .agg #[.int .i64 Y, .int .i64 M, .int .i64 D]] w fun e w' => e = .returned (.tuple #[.int .i64 (unN y m d Y M D), .int .i64 0]) ∧ Below w.heap.size w w' := by
  obtain ⟨ha, hb⟩ := unE_zero h
  have X1 := rCkC_any y m d
  have X2 := rCkC_any Y M D
  rw [ha] at X1
  rw [hb] at X2
  obtain ⟨hm, y1, y2⟩ := of_ckC ha
  obtain ⟨hM, Y1, Y2⟩ := of_ckC hb
  obtain ⟨p1, p2, p3, p4, p5⟩ := mayB_yes hm
  obtain ⟨q1, q2, q3, q4, q5⟩ := mayB_yes hM
  by_cases ho : ord3 y m d Y M D ≤ 0
  · obtain ⟨u1, u2, u3, u4, u5, u6, u7⟩ := un_up ha hb ho
    have ht : uT Y M - uT y m = 12 * (Y - y) + M - m := by unfold uT; omega
    rw [ht] at u2 u3
    refine months_up y m d Y M D _ (12 * (Y - y) + M - m) (unN y m d Y M D) y1 y2 p3 p4 Y1 Y2 q3 q4 rfl ho (by omega) u1 u2 (by omega) (Lib.hid X1) (Lib.hid X2) (Lib.hid (rCmp6_any y m d Y M D)) (Lib.hid fun w => ?_) (Lib.hid fun n n1 n2 w => ?_) w
    · have := ruFits_any y m d Y M D (unN y m d Y M D) ha (by unfold in64; omega) w
      rw [u4] at this
      exact this
    · have := ruFits_any y m d Y M D n ha (by unfold in64; omega) w
      rw [u5 n n1] at this
      exact this
  · obtain ⟨u1, u2, u3, u4, u5, u6, u7⟩ := un_down ha hb ho
    have ht : uT Y M - uT y m = 12 * (Y - y) + M - m := by unfold uT; omega
    rw [ht] at u2 u3
    have e : Value.int .i64 (unN y m d Y M D) = .int .i64 (-(-unN y m d Y M D)) := by rw [Int.neg_neg]
    rw [e]
    have T1 : ∀ w, Calls Tryd.prog 25 #[.agg #[.int .i64 y, .int .i64 m, .int .i64 d], .agg #[.int .i64 Y, .int .i64 M, .int .i64 D], .int .i64 (-(-unN y m d Y M D))] w fun e w' => e = .returned (.bool true) ∧ Below w.heap.size w w' := fun w => by
      rw [Int.neg_neg]
      have := ruFits_any y m d Y M D (unN y m d Y M D) ha (by unfold in64; omega) w
      rw [u4] at this
      exact this
    have T2 : ∀ n, -unN y m d Y M D < n → n ≤ 400000 → ∀ w, Calls Tryd.prog 25 #[.agg #[.int .i64 y, .int .i64 m, .int .i64 d], .agg #[.int .i64 Y, .int .i64 M, .int .i64 D], .int .i64 (-n)] w fun e w' => e = .returned (.bool false) ∧ Below w.heap.size w w' := fun n n1 n2 w => by
      have := ruFits_any y m d Y M D (-n) ha (by unfold in64; omega) w
      rw [u5 (-n) (by omega)] at this
      exact this
    by_cases h0 : 12 * (Y - y) + M - m < 0
    · exact months_dn y m d Y M D _ (12 * (Y - y) + M - m) (-unN y m d Y M D) y1 y2 p3 p4 Y1 Y2 q3 q4 rfl (by omega) h0 (by omega) (by omega) (by omega) (Lib.hid X1) (Lib.hid X2) (Lib.hid (rCmp6_any y m d Y M D)) (Lib.hid T1) (Lib.hid T2) w
    · exact months_d0 y m d Y M D _ (12 * (Y - y) + M - m) (-unN y m d Y M D) y1 y2 p3 p4 Y1 Y2 q3 q4 rfl (by omega) (by omega) (by omega) (by omega) (by omega) (Lib.hid X1) (Lib.hid X2) (Lib.hid (rCmp6_any y m d Y M D)) (Lib.hid T1) (Lib.hid T2) w
set_option maxHeartbeats 3200000 in
set_option maxRecDepth 100000 in
theorem ruUntil_no (y m d Y M D : Int) (h : unE y m d Y M D ≠ 0) (w : World) : Calls Tryd.prog 8 #[.agg #[.int .i64 y, .int .i64 m, .int .i64 d], .agg #[.int .i64 Y, .int .i64 M, .int .i64 D]] w fun e w' => e = .returned (.tuple #[.agg #[.int .i64 0, .int .i64 0, .int .i64 0], .int .i64 (unE y m d Y M D)]) ∧ Below w.heap.size w w' := by
  have H1 := Lib.hid (ruMonths_no y m d Y M D h)
  generalize unE y m d Y M D = E at *
  have f1 : (E != 0) = true := by rw [bne_iff_ne]; exact h
  go_enter Tryd.func8, Tryd.ntmps8
  refine wp_shut ?_
  go_wp2_with fail
  
  refine (H1.out _).mono ?_
  rintro e V1 ⟨rfl, hb1⟩
  have B1 := Lib.hid (((((Below.refl w.heap.size w).alloc (Nat.le_refl _) _).alloc (by simp <;> omega) _).alloc (by simp <;> omega) _).trans (hb1.mono (by first | assumption | (simp <;> omega) | (simp; done))))
  have A1 := Lib.hid (row_call hb1 (row_alloc (row_alloc (heap_alloc_new _ _) _) _))
  have C1 := Lib.hid (row_at (k' := w.heap.size + 1) (by simp) (row_call hb1 (row_alloc (heap_alloc_new _ _) _)))
  have Z1 := Lib.hid (row_at (k' := w.heap.size + 1 + 1) (by simp) (row_call hb1 (heap_alloc_new _ _)))
  clear hb1
  have A1_0 : V1.cell? ⟨w.heap.size, 0, none⟩ = some (.int .i64 y) := cell_of_row _ _ _ _ _ _ A1.out
  have A1_1 : V1.cell? ⟨w.heap.size, 1, none⟩ = some (.int .i64 m) := cell_of_row _ _ _ _ _ _ A1.out
  have A1_2 : V1.cell? ⟨w.heap.size, 2, none⟩ = some (.int .i64 d) := cell_of_row _ _ _ _ _ _ A1.out
  have C1_0 : V1.cell? ⟨w.heap.size + 1, 0, none⟩ = some (.int .i64 Y) := cell_of_row _ _ _ _ _ _ C1.out
  have C1_1 : V1.cell? ⟨w.heap.size + 1, 1, none⟩ = some (.int .i64 M) := cell_of_row _ _ _ _ _ _ C1.out
  have C1_2 : V1.cell? ⟨w.heap.size + 1, 2, none⟩ = some (.int .i64 D) := cell_of_row _ _ _ _ _ _ C1.out
  have Z1_0 : V1.cell? ⟨w.heap.size + 1 + 1, 0, none⟩ = some (.int .i64 0) := cell_of_row _ _ _ _ _ _ Z1.out
  have Z1_1 : V1.cell? ⟨w.heap.size + 1 + 1, 1, none⟩ = some (.int .i64 0) := cell_of_row _ _ _ _ _ _ Z1.out
  have Z1_2 : V1.cell? ⟨w.heap.size + 1 + 1, 2, none⟩ = some (.int .i64 0) := cell_of_row _ _ _ _ _ _ Z1.out
  have Z1_f0 : V1.frozen? ⟨w.heap.size + 1 + 1, 0, none⟩ = false := by simp [World.frozen?, Z1.out]
  have Z1_f1 : V1.frozen? ⟨w.heap.size + 1 + 1, 1, none⟩ = false := by simp [World.frozen?, Z1.out]
  have Z1_f2 : V1.frozen? ⟨w.heap.size + 1 + 1, 2, none⟩ = false := by simp [World.frozen?, Z1.out]
  have zA1 := lt_of_heap A1.out
  have zC1 := lt_of_heap C1.out
  have zZ1 := lt_of_heap Z1.out
  go_simp
  go_wp2
  refine shut_ret (v := .tuple #[.agg #[.int .i64 0, .int .i64 0, .int .i64 0], .int .i64 E]) (by simp [results, Tryd.results8, go_sem, zZ1, Z1_0, Z1_1, Z1_2]) rfl ⟨rfl, ?_⟩
  exact keep3 B1.out (by omega) _ _ _
set_option maxHeartbeats 3200000 in
set_option maxRecDepth 100000 in
theorem until_of (y m d Y M D N X1 X2 X3 p q K1 K2 : Int) (hp : N.tdiv 12 = p) (hq : N.tmod 12 = q) (p1 : -300000 ≤ p) (p2 : p ≤ 300000) (u1 : -1000000000 ≤ K1) (u2 : K1 ≤ 1000001000) (v1 : -1000000000 ≤ K2) (v2 : K2 ≤ 1000001000)
    (H1 : Hid (∀ w, Calls Tryd.prog 10 #[.agg #[.int .i64 y, .int .i64 m, .int .i64 d], .agg #[.int .i64 Y, .int .i64 M, .int .i64 D]] w fun e w' => e = .returned (.tuple #[.int .i64 N, .int .i64 0]) ∧ Below w.heap.size w w'))
    (H2 : Hid (∀ w, Calls Tryd.prog 14 #[.agg #[.int .i64 y, .int .i64 m, .int .i64 d], .int .i64 N, .int .i64 0] w fun e w' => e = .returned (.tuple #[.agg #[.int .i64 X1, .int .i64 X2, .int .i64 X3], .int .i64 0]) ∧ Below w.heap.size w w'))
    (H3 : Hid (∀ w, Calls Tryd.prog 20 #[.agg #[.int .i64 Y, .int .i64 M, .int .i64 D]] w fun e w' => e = .returned (.int .i64 K1) ∧ Below w.heap.size w w'))
    (H4 : Hid (∀ w, Calls Tryd.prog 20 #[.agg #[.int .i64 X1, .int .i64 X2, .int .i64 X3]] w fun e w' => e = .returned (.int .i64 K2) ∧ Below w.heap.size w w')) (w : World) :
    Calls Tryd.prog 8 #[.agg #[.int .i64 y, .int .i64 m, .int .i64 d], .agg #[.int .i64 Y, .int .i64 M, .int .i64 D]] w fun e w' => e = .returned (.tuple #[.agg #[.int .i64 p, .int .i64 q, .int .i64 (K1 - K2)], .int .i64 0]) ∧ Below w.heap.size w w' := by
  have g1 : IntKind.i64.wrap p = p := by rw [IntKind.wrap_i64]; omega
  have g2 : IntKind.i64.wrap (K1 - K2) = K1 - K2 := by rw [IntKind.wrap_i64]; omega
  go_enter Tryd.func8, Tryd.ntmps8
  refine wp_shut ?_
  go_wp2_with fail
  
  refine (H1.out _).mono ?_
  rintro e V1 ⟨rfl, hb1⟩
  have B1 := Lib.hid (((((Below.refl w.heap.size w).alloc (Nat.le_refl _) _).alloc (by simp <;> omega) _).alloc (by simp <;> omega) _).trans (hb1.mono (by first | assumption | (simp <;> omega) | (simp; done))))
  have A1 := Lib.hid (row_call hb1 (row_alloc (row_alloc (heap_alloc_new _ _) _) _))
  have C1 := Lib.hid (row_at (k' := w.heap.size + 1) (by simp) (row_call hb1 (row_alloc (heap_alloc_new _ _) _)))
  have Z1 := Lib.hid (row_at (k' := w.heap.size + 1 + 1) (by simp) (row_call hb1 (heap_alloc_new _ _)))
  clear hb1
  have A1_0 : V1.cell? ⟨w.heap.size, 0, none⟩ = some (.int .i64 y) := cell_of_row _ _ _ _ _ _ A1.out
  have A1_1 : V1.cell? ⟨w.heap.size, 1, none⟩ = some (.int .i64 m) := cell_of_row _ _ _ _ _ _ A1.out
  have A1_2 : V1.cell? ⟨w.heap.size, 2, none⟩ = some (.int .i64 d) := cell_of_row _ _ _ _ _ _ A1.out
  have C1_0 : V1.cell? ⟨w.heap.size + 1, 0, none⟩ = some (.int .i64 Y) := cell_of_row _ _ _ _ _ _ C1.out
  have C1_1 : V1.cell? ⟨w.heap.size + 1, 1, none⟩ = some (.int .i64 M) := cell_of_row _ _ _ _ _ _ C1.out
  have C1_2 : V1.cell? ⟨w.heap.size + 1, 2, none⟩ = some (.int .i64 D) := cell_of_row _ _ _ _ _ _ C1.out
  have Z1_0 : V1.cell? ⟨w.heap.size + 1 + 1, 0, none⟩ = some (.int .i64 0) := cell_of_row _ _ _ _ _ _ Z1.out
  have Z1_1 : V1.cell? ⟨w.heap.size + 1 + 1, 1, none⟩ = some (.int .i64 0) := cell_of_row _ _ _ _ _ _ Z1.out
  have Z1_2 : V1.cell? ⟨w.heap.size + 1 + 1, 2, none⟩ = some (.int .i64 0) := cell_of_row _ _ _ _ _ _ Z1.out
  have Z1_f0 : V1.frozen? ⟨w.heap.size + 1 + 1, 0, none⟩ = false := by simp [World.frozen?, Z1.out]
  have Z1_f1 : V1.frozen? ⟨w.heap.size + 1 + 1, 1, none⟩ = false := by simp [World.frozen?, Z1.out]
  have Z1_f2 : V1.frozen? ⟨w.heap.size + 1 + 1, 2, none⟩ = false := by simp [World.frozen?, Z1.out]
  have zA1 := lt_of_heap A1.out
  have zC1 := lt_of_heap C1.out
  have zZ1 := lt_of_heap Z1.out
  go_simp
  go_wp2_with fail
  refine (H2.out _).mono ?_
  rintro e V2 ⟨rfl, hb2⟩
  clear A1_0 A1_1 A1_2 zA1 C1_0 C1_1 C1_2 zC1 Z1_0 Z1_1 Z1_2 Z1_f0 Z1_f1 Z1_f2 zZ1
  have B2 : Hid (Below w.heap.size w V2) := by first | exact Lib.hid ((B1.out).trans (hb2.mono (by have := B1.out.size; first | assumption | (simp <;> omega) | (simp; done)))) | exact Lib.hid (((B1.out).alloc (B1.out.size) _).trans (hb2.mono (by have := B1.out.size; first | assumption | (simp <;> omega) | (simp; done)))) | exact Lib.hid ((((B1.out).alloc (B1.out.size) _).alloc (by have := B1.out.size; simp <;> omega) _).trans (hb2.mono (by have := B1.out.size; first | assumption | (simp <;> omega) | (simp; done)))) | exact Lib.hid (((((B1.out).alloc (B1.out.size) _).alloc (by have := B1.out.size; simp <;> omega) _).alloc (by have := B1.out.size; simp <;> omega) _).trans (hb2.mono (by have := B1.out.size; first | assumption | (simp <;> omega) | (simp; done))))
  first | replace A1 := Lib.hid (row_call hb2 A1.out) | replace A1 := Lib.hid (row_call hb2 (row_alloc A1.out _)) | replace A1 := Lib.hid (row_call hb2 (row_alloc (row_alloc A1.out _) _)) | replace A1 := Lib.hid (row_call hb2 (row_alloc (row_alloc (row_alloc A1.out _) _) _))
  first | replace C1 := Lib.hid (row_call hb2 C1.out) | replace C1 := Lib.hid (row_call hb2 (row_alloc C1.out _)) | replace C1 := Lib.hid (row_call hb2 (row_alloc (row_alloc C1.out _) _)) | replace C1 := Lib.hid (row_call hb2 (row_alloc (row_alloc (row_alloc C1.out _) _) _))
  first | replace Z1 := Lib.hid (row_call hb2 Z1.out) | replace Z1 := Lib.hid (row_call hb2 (row_alloc Z1.out _)) | replace Z1 := Lib.hid (row_call hb2 (row_alloc (row_alloc Z1.out _) _)) | replace Z1 := Lib.hid (row_call hb2 (row_alloc (row_alloc (row_alloc Z1.out _) _) _))
  clear hb2
  have A1_0 : V2.cell? ⟨w.heap.size, 0, none⟩ = some (.int .i64 y) := cell_of_row _ _ _ _ _ _ A1.out
  have A1_1 : V2.cell? ⟨w.heap.size, 1, none⟩ = some (.int .i64 m) := cell_of_row _ _ _ _ _ _ A1.out
  have A1_2 : V2.cell? ⟨w.heap.size, 2, none⟩ = some (.int .i64 d) := cell_of_row _ _ _ _ _ _ A1.out
  have C1_0 : V2.cell? ⟨w.heap.size + 1, 0, none⟩ = some (.int .i64 Y) := cell_of_row _ _ _ _ _ _ C1.out
  have C1_1 : V2.cell? ⟨w.heap.size + 1, 1, none⟩ = some (.int .i64 M) := cell_of_row _ _ _ _ _ _ C1.out
  have C1_2 : V2.cell? ⟨w.heap.size + 1, 2, none⟩ = some (.int .i64 D) := cell_of_row _ _ _ _ _ _ C1.out
  have Z1_0 : V2.cell? ⟨w.heap.size + 1 + 1, 0, none⟩ = some (.int .i64 0) := cell_of_row _ _ _ _ _ _ Z1.out
  have Z1_1 : V2.cell? ⟨w.heap.size + 1 + 1, 1, none⟩ = some (.int .i64 0) := cell_of_row _ _ _ _ _ _ Z1.out
  have Z1_2 : V2.cell? ⟨w.heap.size + 1 + 1, 2, none⟩ = some (.int .i64 0) := cell_of_row _ _ _ _ _ _ Z1.out
  have Z1_f0 : V2.frozen? ⟨w.heap.size + 1 + 1, 0, none⟩ = false := by simp [World.frozen?, Z1.out]
  have Z1_f1 : V2.frozen? ⟨w.heap.size + 1 + 1, 1, none⟩ = false := by simp [World.frozen?, Z1.out]
  have Z1_f2 : V2.frozen? ⟨w.heap.size + 1 + 1, 2, none⟩ = false := by simp [World.frozen?, Z1.out]
  have zA1 := lt_of_heap A1.out
  have zC1 := lt_of_heap C1.out
  have zZ1 := lt_of_heap Z1.out
  go_simp
  go_wp2_with fail
  obtain ⟨W0, hW0⟩ : ∃ W0, W0 = (V2.alloc (Obj.cells #[Value.int .i64 X1, Value.int .i64 X2, Value.int .i64 X3] 23)) := ⟨_, rfl⟩
  have nA1N1 := Lib.hid (lt_of_heap A1.out)
  have nC1N1 := Lib.hid (lt_of_heap C1.out)
  have nZ1N1 := Lib.hid (lt_of_heap Z1.out)
  replace A1 := Lib.hid (row_by hW0 (row_alloc A1.out _))
  replace C1 := Lib.hid (row_by hW0 (row_alloc C1.out _))
  replace Z1 := Lib.hid (row_by hW0 (row_alloc Z1.out _))
  have N1 := Lib.hid (row_at (k' := V2.heap.size) (by simp) (row_by hW0 (heap_alloc_new _ _)))
  clear A1_0 A1_1 A1_2 zA1 C1_0 C1_1 C1_2 zC1 Z1_0 Z1_1 Z1_2 Z1_f0 Z1_f1 Z1_f2 zZ1
  have A1_0 : W0.cell? ⟨w.heap.size, 0, none⟩ = some (.int .i64 y) := cell_of_row _ _ _ _ _ _ A1.out
  have A1_1 : W0.cell? ⟨w.heap.size, 1, none⟩ = some (.int .i64 m) := cell_of_row _ _ _ _ _ _ A1.out
  have A1_2 : W0.cell? ⟨w.heap.size, 2, none⟩ = some (.int .i64 d) := cell_of_row _ _ _ _ _ _ A1.out
  have zA1 := lt_of_heap A1.out
  have C1_0 : W0.cell? ⟨w.heap.size + 1, 0, none⟩ = some (.int .i64 Y) := cell_of_row _ _ _ _ _ _ C1.out
  have C1_1 : W0.cell? ⟨w.heap.size + 1, 1, none⟩ = some (.int .i64 M) := cell_of_row _ _ _ _ _ _ C1.out
  have C1_2 : W0.cell? ⟨w.heap.size + 1, 2, none⟩ = some (.int .i64 D) := cell_of_row _ _ _ _ _ _ C1.out
  have zC1 := lt_of_heap C1.out
  have Z1_0 : W0.cell? ⟨w.heap.size + 1 + 1, 0, none⟩ = some (.int .i64 0) := cell_of_row _ _ _ _ _ _ Z1.out
  have Z1_1 : W0.cell? ⟨w.heap.size + 1 + 1, 1, none⟩ = some (.int .i64 0) := cell_of_row _ _ _ _ _ _ Z1.out
  have Z1_2 : W0.cell? ⟨w.heap.size + 1 + 1, 2, none⟩ = some (.int .i64 0) := cell_of_row _ _ _ _ _ _ Z1.out
  have zZ1 := lt_of_heap Z1.out
  have N1_0 : W0.cell? ⟨V2.heap.size, 0, none⟩ = some (.int .i64 X1) := cell_of_row _ _ _ _ _ _ N1.out
  have N1_1 : W0.cell? ⟨V2.heap.size, 1, none⟩ = some (.int .i64 X2) := cell_of_row _ _ _ _ _ _ N1.out
  have N1_2 : W0.cell? ⟨V2.heap.size, 2, none⟩ = some (.int .i64 X3) := cell_of_row _ _ _ _ _ _ N1.out
  have zN1 := lt_of_heap N1.out
  have HB0 := Lib.hid (below_by hW0 ((B2.out).alloc (B2.out.size) _))
  have zW0 := HB0.out.size
  have HW0 := Lib.hid hW0
  clear hW0
  try go_simp
  rw [← HW0.out]
  refine region_plan (S := fun w2 => w2.cell? ⟨w.heap.size + 1, 0, none⟩ = some (.int .i64 Y) ∧ w2.cell? ⟨w.heap.size + 1, 1, none⟩ = some (.int .i64 M) ∧ w2.cell? ⟨w.heap.size + 1, 2, none⟩ = some (.int .i64 D) ∧ w2.cell? ⟨V2.heap.size, 0, none⟩ = some (.int .i64 X1) ∧ w2.cell? ⟨V2.heap.size, 1, none⟩ = some (.int .i64 X2) ∧ w2.cell? ⟨V2.heap.size, 2, none⟩ = some (.int .i64 X3)) [(0, true), (1, true), (2, true), (3, true), (4, true), (6, true), (5, false), (7, false), (8, true), (9, true), (10, false), (11, true)] (by as_aux_lemma => kernel_rfl) (by as_aux_lemma => kernel_rfl) (by as_aux_lemma => kernel_rfl) (by as_aux_lemma => kernel_rfl) ⟨(by rw [World.cell?_drew]; exact C1_0), (by rw [World.cell?_drew]; exact C1_1), (by rw [World.cell?_drew]; exact C1_2), (by rw [World.cell?_drew]; exact N1_0), (by rw [World.cell?_drew]; exact N1_1), (by rw [World.cell?_drew]; exact N1_2)⟩ ?_
  have Y0 := Lib.hid (Below.refl W0.heap.size W0).drew
  refine plan_yes (v := ?v1_1) (by simp only [List.getElem?_toArray, List.getElem?_cons_zero, List.getElem?_cons_succ]; exact rfl) (Or.inl ⟨by as_aux_lemma => rfl, ?hy1_1⟩) ?rest1_1
  case hy1_1 => (intro w2 hSw; (try dsimp only at hSw); obtain ⟨s0, s1, s2, s3, s4, s5⟩ := hSw; go_simp; try with_reducible rfl)
  try simp only [Act.put, List.setIfInBounds_toArray, List.set_cons_zero, List.set_cons_succ]
  refine plan_yes (v := ?v2_1) (by simp only [List.getElem?_toArray, List.getElem?_cons_zero, List.getElem?_cons_succ]; exact rfl) (Or.inl ⟨by as_aux_lemma => rfl, ?hy2_1⟩) ?rest2_1
  case hy2_1 => (intro w2 hSw; (try dsimp only at hSw); obtain ⟨s0, s1, s2, s3, s4, s5⟩ := hSw; go_simp; try with_reducible rfl)
  try simp only [Act.put, List.setIfInBounds_toArray, List.set_cons_zero, List.set_cons_succ]
  refine plan_yes (v := ?v3_1) (by simp only [List.getElem?_toArray, List.getElem?_cons_zero, List.getElem?_cons_succ]; exact rfl) (Or.inl ⟨by as_aux_lemma => rfl, ?hy3_1⟩) ?rest3_1
  case hy3_1 => (intro w2 hSw; (try dsimp only at hSw); obtain ⟨s0, s1, s2, s3, s4, s5⟩ := hSw; go_simp; try with_reducible rfl)
  try simp only [Act.put, List.setIfInBounds_toArray, List.set_cons_zero, List.set_cons_succ]
  refine plan_yes (v := ?v4_1) (by simp only [List.getElem?_toArray, List.getElem?_cons_zero, List.getElem?_cons_succ]; exact rfl) (Or.inl ⟨by as_aux_lemma => rfl, ?hy4_1⟩) ?rest4_1
  case hy4_1 => (intro w2 hSw; (try dsimp only at hSw); obtain ⟨s0, s1, s2, s3, s4, s5⟩ := hSw; go_simp; try with_reducible rfl)
  try simp only [Act.put, List.setIfInBounds_toArray, List.set_cons_zero, List.set_cons_succ]
  refine plan_yes (v := ?v5_1) (by simp only [List.getElem?_toArray, List.getElem?_cons_zero, List.getElem?_cons_succ]; exact rfl) (Or.inl ⟨by as_aux_lemma => rfl, ?hy5_1⟩) ?rest5_1
  case hy5_1 => (intro w2 hSw; (try dsimp only at hSw); obtain ⟨s0, s1, s2, s3, s4, s5⟩ := hSw; go_simp; try with_reducible rfl)
  try simp only [Act.put, List.setIfInBounds_toArray, List.set_cons_zero, List.set_cons_succ]
  refine plan_yes (v := ?v6_1) (by simp only [List.getElem?_toArray, List.getElem?_cons_zero, List.getElem?_cons_succ]; exact rfl) (Or.inl ⟨by as_aux_lemma => rfl, ?hy6_1⟩) ?rest6_1
  case hy6_1 => (intro w2 hSw; (try dsimp only at hSw); obtain ⟨s0, s1, s2, s3, s4, s5⟩ := hSw; go_simp; try with_reducible rfl)
  try simp only [Act.put, List.setIfInBounds_toArray, List.set_cons_zero, List.set_cons_succ]
  refine plan_calls (by simp only [List.getElem?_toArray, List.getElem?_cons_zero, List.getElem?_cons_succ]; exact rfl) (by as_aux_lemma => rfl) (fun K hK => ?_)
  go_simp
  refine (H3.out _).mono ?_
  rintro e Y1w ⟨rfl, hb1⟩
  have Y1 := Lib.hid (keepS (W0 := W0) Y0.out hb1)
  clear hb1
  refine hK.out _ _ ⟨((Y1.out.cell (p := ⟨w.heap.size + 1, 0, none⟩) zC1).trans C1_0), ((Y1.out.cell (p := ⟨w.heap.size + 1, 1, none⟩) zC1).trans C1_1), ((Y1.out.cell (p := ⟨w.heap.size + 1, 2, none⟩) zC1).trans C1_2), ((Y1.out.cell (p := ⟨V2.heap.size, 0, none⟩) zN1).trans N1_0), ((Y1.out.cell (p := ⟨V2.heap.size, 1, none⟩) zN1).trans N1_1), ((Y1.out.cell (p := ⟨V2.heap.size, 2, none⟩) zN1).trans N1_2)⟩ ?_
  clear hK K
  try simp only [Act.put, List.setIfInBounds_toArray, List.set_cons_zero, List.set_cons_succ]
  as_aux_lemma =>
   refine plan_calls (by simp only [List.getElem?_toArray, List.getElem?_cons_zero, List.getElem?_cons_succ]; exact rfl) (by as_aux_lemma => rfl) (fun K hK => ?_)
   go_simp
   refine (H4.out _).mono ?_
   rintro e Y2w ⟨rfl, hb1⟩
   have Y2 := Lib.hid (keepS (W0 := W0) Y1.out hb1)
   clear hb1
   refine hK.out _ _ ⟨((Y2.out.cell (p := ⟨w.heap.size + 1, 0, none⟩) zC1).trans C1_0), ((Y2.out.cell (p := ⟨w.heap.size + 1, 1, none⟩) zC1).trans C1_1), ((Y2.out.cell (p := ⟨w.heap.size + 1, 2, none⟩) zC1).trans C1_2), ((Y2.out.cell (p := ⟨V2.heap.size, 0, none⟩) zN1).trans N1_0), ((Y2.out.cell (p := ⟨V2.heap.size, 1, none⟩) zN1).trans N1_1), ((Y2.out.cell (p := ⟨V2.heap.size, 2, none⟩) zN1).trans N1_2)⟩ ?_
   clear hK K
   try simp only [Act.put, List.setIfInBounds_toArray, List.set_cons_zero, List.set_cons_succ]
   as_aux_lemma =>
    refine plan_yes (v := ?v7_1) (by simp only [List.getElem?_toArray, List.getElem?_cons_zero, List.getElem?_cons_succ]; exact rfl) (Or.inl ⟨by as_aux_lemma => rfl, ?hy7_1⟩) ?rest7_1
    case hy7_1 => (intro w2 hSw; (try dsimp only at hSw); obtain ⟨s0, s1, s2, s3, s4, s5⟩ := hSw; go_simp; try with_reducible rfl)
    try simp only [Act.put, List.setIfInBounds_toArray, List.set_cons_zero, List.set_cons_succ]
    refine plan_yes (v := .agg #[.int .i64 p, .int .i64 q, .int .i64 (K1 - K2)]) (by simp only [List.getElem?_toArray, List.getElem?_cons_zero, List.getElem?_cons_succ]; exact rfl) (Or.inl ⟨by as_aux_lemma => rfl, fun w2 _ => run_buildop rfl (by as_aux_lemma => kernel_rfl) w2⟩) ?_
    try simp only [Act.put, List.setIfInBounds_toArray, List.set_cons_zero, List.set_cons_succ]
    replace A1 := Lib.hid (row_call Y2.out A1.out)
    replace C1 := Lib.hid (row_call Y2.out C1.out)
    replace Z1 := Lib.hid (row_call Y2.out Z1.out)
    replace N1 := Lib.hid (row_call Y2.out N1.out)
    have Bc := Lib.hid (HB0.out.trans (Y2.out.mono zW0))
    refine plan_calls (by simp only [List.getElem?_toArray, List.getElem?_cons_zero, List.getElem?_cons_succ]; exact rfl) (by as_aux_lemma => rfl) (fun K hK => ?_)
    refine wp_store_row 25 _ _ rfl (w.heap.size + 1 + 1) #[Value.int .i64 p, Value.int .i64 q, Value.int .i64 (K1 - K2)] (by rfl) (by rfl) _ _ Z1.out (by kernel_rfl) rfl (by simp [Value.oneCell']) ?_
    refine hK.out _ _ ⟨(cell_of_row _ _ _ _ _ _ (row_otherR (by first | omega | (have := nC1Z1.out; omega) | (have := nZ1C1.out; omega)) C1.out _)), (cell_of_row _ _ _ _ _ _ (row_otherR (by first | omega | (have := nC1Z1.out; omega) | (have := nZ1C1.out; omega)) C1.out _)), (cell_of_row _ _ _ _ _ _ (row_otherR (by first | omega | (have := nC1Z1.out; omega) | (have := nZ1C1.out; omega)) C1.out _)), (cell_of_row _ _ _ _ _ _ (row_otherR (by first | omega | (have := nN1Z1.out; omega) | (have := nZ1N1.out; omega)) N1.out _)), (cell_of_row _ _ _ _ _ _ (row_otherR (by first | omega | (have := nN1Z1.out; omega) | (have := nZ1N1.out; omega)) N1.out _)), (cell_of_row _ _ _ _ _ _ (row_otherR (by first | omega | (have := nN1Z1.out; omega) | (have := nZ1N1.out; omega)) N1.out _))⟩ ?_
    clear hK K
    try simp only [Act.put, List.setIfInBounds_toArray, List.set_cons_zero, List.set_cons_succ]
    obtain ⟨Y1s, hYs⟩ : ∃ V, V = Y2w.setRow (w.heap.size + 1 + 1) #[Value.int .i64 p, Value.int .i64 q, Value.int .i64 (K1 - K2)] := ⟨_, rfl⟩
    rw [← hYs]
    replace A1 := Lib.hid (row_by hYs (row_otherR (by first | omega | (have := nA1Z1.out; omega) | (have := nZ1A1.out; omega)) A1.out _))
    replace C1 := Lib.hid (row_by hYs (row_otherR (by first | omega | (have := nC1Z1.out; omega) | (have := nZ1C1.out; omega)) C1.out _))
    replace Z1 := Lib.hid (row_by hYs (setRow_heap _ _ _ _ _ _ Z1.out))
    replace N1 := Lib.hid (row_by hYs (row_otherR (by first | omega | (have := nN1Z1.out; omega) | (have := nZ1N1.out; omega)) N1.out _))
    replace Bc := Lib.hid (below_by hYs (keepRow Bc.out (by omega) _))
    clear hYs
    refine plan_yes (v := ?v8_1) (by simp only [List.getElem?_toArray, List.getElem?_cons_zero, List.getElem?_cons_succ]; exact rfl) (Or.inl ⟨by as_aux_lemma => rfl, ?hy8_1⟩) ?rest8_1
    case hy8_1 => (intro w2 hSw; (try dsimp only at hSw); obtain ⟨s0, s1, s2, s3, s4, s5⟩ := hSw; go_simp; try with_reducible rfl)
    try simp only [Act.put, List.setIfInBounds_toArray, List.set_cons_zero, List.set_cons_succ]
    refine plan_done (NoPanic.normal ?_)
    have B3 := Bc
    clear Bc A1_0 A1_1 A1_2 C1_0 C1_1 C1_2 Z1_0 Z1_1 Z1_2 N1_0 N1_1 N1_2 zA1 zC1 zZ1 zN1 Y0 Y1 Y2
    obtain ⟨V3, rfl⟩ : ∃ V, V = Y1s := ⟨_, rfl⟩
    have A1_0 : V3.cell? ⟨w.heap.size, 0, none⟩ = some (.int .i64 y) := cell_of_row _ _ _ _ _ _ A1.out
    have A1_1 : V3.cell? ⟨w.heap.size, 1, none⟩ = some (.int .i64 m) := cell_of_row _ _ _ _ _ _ A1.out
    have A1_2 : V3.cell? ⟨w.heap.size, 2, none⟩ = some (.int .i64 d) := cell_of_row _ _ _ _ _ _ A1.out
    have zA1 := lt_of_heap A1.out
    have C1_0 : V3.cell? ⟨w.heap.size + 1, 0, none⟩ = some (.int .i64 Y) := cell_of_row _ _ _ _ _ _ C1.out
    have C1_1 : V3.cell? ⟨w.heap.size + 1, 1, none⟩ = some (.int .i64 M) := cell_of_row _ _ _ _ _ _ C1.out
    have C1_2 : V3.cell? ⟨w.heap.size + 1, 2, none⟩ = some (.int .i64 D) := cell_of_row _ _ _ _ _ _ C1.out
    have zC1 := lt_of_heap C1.out
    have Z1_0 : V3.cell? ⟨w.heap.size + 1 + 1, 0, none⟩ = some (.int .i64 p) := cell_of_row _ _ _ _ _ _ Z1.out
    have Z1_f0 : V3.frozen? ⟨w.heap.size + 1 + 1, 0, none⟩ = false := (by simp [World.frozen?, Z1.out])
    have Z1_1 : V3.cell? ⟨w.heap.size + 1 + 1, 1, none⟩ = some (.int .i64 q) := cell_of_row _ _ _ _ _ _ Z1.out
    have Z1_f1 : V3.frozen? ⟨w.heap.size + 1 + 1, 1, none⟩ = false := (by simp [World.frozen?, Z1.out])
    have Z1_2 : V3.cell? ⟨w.heap.size + 1 + 1, 2, none⟩ = some (.int .i64 (K1 - K2)) := cell_of_row _ _ _ _ _ _ Z1.out
    have Z1_f2 : V3.frozen? ⟨w.heap.size + 1 + 1, 2, none⟩ = false := (by simp [World.frozen?, Z1.out])
    have zZ1 := lt_of_heap Z1.out
    have N1_0 : V3.cell? ⟨V2.heap.size, 0, none⟩ = some (.int .i64 X1) := cell_of_row _ _ _ _ _ _ N1.out
    have N1_1 : V3.cell? ⟨V2.heap.size, 1, none⟩ = some (.int .i64 X2) := cell_of_row _ _ _ _ _ _ N1.out
    have N1_2 : V3.cell? ⟨V2.heap.size, 2, none⟩ = some (.int .i64 X3) := cell_of_row _ _ _ _ _ _ N1.out
    have zN1 := lt_of_heap N1.out
    try go_simp
    go_wp2
    refine shut_ret (v := .tuple #[.agg #[.int .i64 p, .int .i64 q, .int .i64 (K1 - K2)], .int .i64 0]) (by simp [results, Tryd.results8, go_sem, zZ1, Z1_0, Z1_1, Z1_2]) rfl ⟨rfl, ?_⟩
    exact B3.out
theorem ruUntil_any (y m d Y M D : Int) (h : unE y m d Y M D = 0) (w : World) : Calls Tryd.prog 8 #[.agg #[.int .i64 y, .int .i64 m, .int .i64 d], .agg #[.int .i64 Y, .int .i64 M, .int .i64 D]] w fun e w' => e = .returned (.tuple #[.agg #[.int .i64 ((unN y m d Y M D).tdiv 12), .int .i64 ((unN y m d Y M D).tmod 12), .int .i64 (unD y m d Y M D)], .int .i64 0]) ∧ Below w.heap.size w w' := by
  obtain ⟨ha, hb⟩ := unE_zero h
  obtain ⟨n1, n2, n3, n4⟩ := unN_bd ha hb
  obtain ⟨hm, y1, y2⟩ := of_ckC ha
  obtain ⟨hM, Y1, Y2⟩ := of_ckC hb
  obtain ⟨p1, p2, p3, p4, p5⟩ := mayB_yes hm
  obtain ⟨q1, q2, q3, q4, q5⟩ := mayB_yes hM
  obtain ⟨_, c1, c2⟩ := mo_T y m (unN y m d Y M D)
  have hx := moD_may (y := y) (m := m) (n := unN y m d Y M D) p1
  obtain ⟨x1, x2, x3, x4, x5⟩ := mayB_yes hx
  have b1 := dn_bd (y := Y) (m := M) (d := D) (by omega) ⟨q3, q4⟩ ⟨q1, q5⟩
  have b2 := dn_bd (y := moY y m (unN y m d Y M D)) (m := moM y m (unN y m d Y M D)) (d := moD y m d (unN y m d Y M D)) (by omega) ⟨c1, c2⟩ ⟨x1, x5⟩
  have e : unD y m d Y M D = dnI Y M D - dnI (moY y m (unN y m d Y M D)) (moM y m (unN y m d Y M D)) (moD y m d (unN y m d Y M D)) := by unfold unD; rfl
  rw [e]
  have k := Int.tmod_add_mul_tdiv (unN y m d Y M D) 12
  have k1 := Int.lt_tmod_of_pos (unN y m d Y M D) (show (0 : Int) < 12 by decide)
  have k2 := Int.tmod_lt_of_pos (unN y m d Y M D) (show (0 : Int) < 12 by decide)
  exact until_of y m d Y M D _ _ _ _ _ _ _ _ rfl rfl (by omega) (by omega) b1.1 b1.2 b2.1 b2.2 (Lib.hid (ruMonths_any y m d Y M D h)) (Lib.hid (rmAddC_any y m d _ ha (by unfold in64; omega) n3 n4))
    (Lib.hid (rNumber_any Y M D (by omega) ⟨q3, q4⟩ ⟨q1, q5⟩)) (Lib.hid (rNumber_any _ _ _ (by omega) ⟨c1, c2⟩ ⟨x1, x5⟩)) w
end Go.Proofs.YtoopbgpoelpjfaaDoor
