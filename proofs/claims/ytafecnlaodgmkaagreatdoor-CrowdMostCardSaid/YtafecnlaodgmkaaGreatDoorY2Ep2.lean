/- Several texts in one: EpC, EpE, EpF, EpK, EpG, EpL, EpO. -/
import Derived.Test.YtafecnlaodgmkaaGreatDoorY2Sm
import Derived.Test.YtafecnlaodgmkaaGreatDoorY2Ex1
import Derived.Test.YtafecnlaodgmkaaGreatDoorY2Rul1
import Derived.Test.YtafecnlaodgmkaaGreatDoorY2OwnA1
import Derived.Test.YtafecnlaodgmkaaGreatDoorY2Rp2
import Derived.Test.YtafecnlaodgmkaaGreatDoorY2Ep1
import Derived.Laws.MakeOwn
import Derived.StillTailTactics
namespace Go.Proofs.YtafecnlaodgmkaaGreatDoor
set_option linter.unusedVariables false
set_option linter.unusedSimpArgs false
open Go.ChangeShapes Go.WideShapes Go.ChangeAt Go.RowKit
theorem xYearOf_in {YF : Int → Int} (hYF : ∀ S, YIs S (YF S)) {x : Int} (x1 : -377705116800 ≤ x) (x2 : x ≤ 253402300799) (w : World) (hM : MD w) : Calls Tryz.prog 73 #[.int .i64 x] w fun e w' => e = .returned (.int .i64 (YF x)) ∧ Below w.heap.size w w' := by
  refine (xYearOf_ex x w hM).mono ?_
  rintro e w' ⟨⟨Y, rfl, hY⟩, hb⟩
  rw [yo_in hYF hY x1 x2]
  exact ⟨rfl, hb⟩
def endY (YF : Int → Int) (l : Lin) : Int := if l.k = 1 then YF l.s else min l.t 10000
set_option maxHeartbeats 3200000 in
set_option maxRecDepth 100000 in
theorem xYears_any {YF : Int → Int} (hYF : ∀ S, YIs S (YF S)) (l : Lin) (hl : OkL l) (w : World) (hM : MD w) : Calls Tryz.prog 72 #[linA l] w fun e w' => e = .returned (.tuple #[.int .i64 (begY YF l), .int .i64 (endY YF l)]) ∧ Below w.heap.size w w' := by
  rcases hl.1 with ⟨hk, -, -, -, -, -, -, -, -, s1, s2⟩ | ⟨hk, -, f1, f2, ht, -⟩
  · have H := Lib.hid (xYearOf_in hYF (x := l.s) s1 s2)
    have e1 : begY YF l = YF l.s := if_pos hk
    have e2 : endY YF l = YF l.s := if_pos hk
    rw [e1, e2]
    obtain ⟨lk, lsec, lf, lt, lm, ldk, ldn, ldw, lti, lrd, lof, lds, lab⟩ := l
    simp only at *
    subst hk
    clear hl e1 e2
    generalize YF lsec = Y at *
    replace hM := Lib.hid hM
    unfold linA
    simp only
    go_enter Tryz.func72, Tryz.ntmps72
    go_wp2_with fail
    
    refine (H.out _ (by first | exact md_keep hM ((Below.refl w.heap.size w).alloc (Nat.le_refl _) _))).mono ?_
    rintro e V1 ⟨rfl, hb1⟩
    have B1 := nby hb1
    have A1 := Lib.hid (row_call hb1 (heap_alloc_new _ _))
    clear hb1
    obtain ⟨A1_0, A1_1, A1_2, A1_3, A1_4, A1_5, A1_6, A1_7, A1_8, A1_9, A1_10, A1_11, A1_12⟩ := qw13 A1
    have zA1 := lt_of_heap A1.out
    go_simp
    go_wp2
    go_ret2
    exact ⟨rfl, B1.out⟩
  · have e1 : begY YF l = l.f := if_neg (by omega)
    have e2 : endY YF l = min l.t 10000 := if_neg (by omega)
    rw [e1, e2]
    obtain ⟨lk, lsec, lf, lt, lm, ldk, ldn, ldw, lti, lrd, lof, lds, lab⟩ := l
    simp only at *
    subst hk
    clear hl e1 e2
    have B1 := Lib.hid ((Below.refl _ w).alloc (Nat.le_refl _) (.cells #[.int .i64 2, .int .i64 lsec, .int .i64 lf, .int .i64 lt, .int .i64 lm, .int .i64 ldk, .int .i64 ldn, .int .i64 ldw, .int .i64 lti, .int .i64 lrd, .int .i64 lof, .bool lds, .string (bs lab)] 58))
    unfold linA
    simp only
    go_enter Tryz.func72, Tryz.ntmps72
    go_wp2
    go_region
    all_goals
      go_wp2
      go_ret2
      exact ⟨by first | rfl | (rw [Int.min_def]; rfl), B1.out.drew⟩
theorem stp_min {YF : Int → Int} {l : Lin} (Y : Int) : stpY YF l Y = min (endY YF l) (Y + 1) := by
  unfold stpY endY
  split <;> rfl
set_option maxHeartbeats 6400000 in
set_option maxRecDepth 100000 in
theorem xLastMoment_any {YF : Int → Int} (hYF : ∀ S, YIs S (YF S)) (l : Lin) (hl : OkL l) {x Y : Int} (hY : YoI x Y) (w : World) (hM : MD w) :
    Calls Tryz.prog 54 #[linA l, .int .i64 x] w fun e w' => e = .returned (.tuple #[.int .i64 (fndV YF l x Y).1, .bool (fndV YF l x Y).2]) ∧ Below w.heap.size w w' := by
  have H1 := Lib.hid (xYears_any hYF l hl)
  have H2 := Lib.hid (xYearOf_is hY)
  have H3 : Hid (∀ y w, MD w → Calls Tryz.prog 67 #[linA l, .int .i64 y] w fun e w' => e = .returned (.tuple #[.int .i64 (atV l (YF l.s) y).1, .bool (atV l (YF l.s) y).2]) ∧ Below w.heap.size w w') := Lib.hid (fun y => pYrAt_any hYF l hl y)
  have bE : -9999 ≤ endY YF l ∧ endY YF l ≤ 10000 ∧ -9999 ≤ begY YF l ∧ begY YF l ≤ 9999 := by
    unfold endY begY
    rcases hl.1 with ⟨hk, _, _, _, _, _, _, _, _, s1, s2⟩ | ⟨hk, _, f1, f2, ht, _⟩
    · have := yIs_in (hYF l.s) s1 s2
      rw [if_pos hk, if_pos hk]
      omega
    · rw [if_neg (by omega), if_neg (by omega)]
      omega
  have bY : -10000 ≤ Y ∧ Y ≤ 9999 := ⟨hY.1, hY.2.1⟩
  have hS := stp_min (YF := YF) (l := l) Y
  have hF : Hid (fndV YF l x Y = (seekN (hitM YF l x) (stpY YF l Y) (stpY YF l Y - max (begY YF l) (stpY YF l Y - 9) + 1).toNat).elim (0, false) (fun y => ((atV l (YF l.s) y).1, true))) := Lib.hid rfl
  have hH : Hid (∀ y, hitM YF l x y = ((atV l (YF l.s) y).2 && decide ((atV l (YF l.s) y).1 ≤ x))) := Lib.hid (fun y => rfl)
  obtain ⟨lk, lsec, lf, lt, lm, ldk, ldn, ldw, lti, lrd, lof, lds, lab⟩ := l
  unfold linA at *
  simp only at *
  clear hl
  generalize endY YF ⟨lk, lsec, lf, lt, lm, ldk, ldn, ldw, lti, lrd, lof, lds, lab⟩ = en at *
  generalize begY YF ⟨lk, lsec, lf, lt, lm, ldk, ldn, ldw, lti, lrd, lof, lds, lab⟩ = be at *
  generalize stpY YF ⟨lk, lsec, lf, lt, lm, ldk, ldn, ldw, lti, lrd, lof, lds, lab⟩ Y = st at *
  generalize hitM YF ⟨lk, lsec, lf, lt, lm, ldk, ldn, ldw, lti, lrd, lof, lds, lab⟩ x = p at *
  generalize fndV YF ⟨lk, lsec, lf, lt, lm, ldk, ldn, ldw, lti, lrd, lof, lds, lab⟩ x Y = R at *
  generalize atV ⟨lk, lsec, lf, lt, lm, ldk, ldn, ldw, lti, lrd, lof, lds, lab⟩ (YF lsec) = at1 at *
  replace hM := Lib.hid hM
  obtain ⟨en1, en2, be1, be2⟩ := bE
  obtain ⟨Y1, Y2⟩ := bY
  have st1 : -10009 ≤ st := by omega
  have st2 : st ≤ 10000 := by omega
  go_enter Tryz.func54, Tryz.ntmps54
  go_wp2_with fail
  
  refine (H1.out _ (by first | exact md_keep hM ((Below.refl w.heap.size w).alloc (Nat.le_refl _) _))).mono ?_
  rintro e V1 ⟨rfl, hb1⟩
  have B1 := nby hb1
  have A1 := Lib.hid (row_call hb1 (heap_alloc_new _ _))
  clear hb1
  obtain ⟨A1_0, A1_1, A1_2, A1_3, A1_4, A1_5, A1_6, A1_7, A1_8, A1_9, A1_10, A1_11, A1_12⟩ := qw13 A1
  have zA1 := lt_of_heap A1.out
  go_simp
  go_wp2_with fail
  refine (H2.out _ (by first | exact md_keep hM (B1.out) | exact md_keep hM ((B1.out).alloc (B1.out.size) _) | exact md_keep hM (((B1.out).alloc (B1.out.size) _).alloc (by have := B1.out.size; simp <;> omega) _) | exact md_keep hM ((((B1.out).alloc (B1.out.size) _).alloc (by have := B1.out.size; simp <;> omega) _).alloc (by have := B1.out.size; simp <;> omega) _))).mono ?_
  rintro e V2 ⟨rfl, hb2⟩
  clear A1_0 A1_1 A1_2 A1_3 A1_4 A1_5 A1_6 A1_7 A1_8 A1_9 A1_10 A1_11 A1_12 zA1
  have B2 : Hid (Below w.heap.size w V2) := nbx B1 hb2
  replace A1 := rcx hb2 A1
  clear hb2
  obtain ⟨A1_0, A1_1, A1_2, A1_3, A1_4, A1_5, A1_6, A1_7, A1_8, A1_9, A1_10, A1_11, A1_12⟩ := qw13 A1
  have zA1 := lt_of_heap A1.out
  go_simp
  go_wp2
  rw [← hS]
  replace hS := Lib.hid hS
  obtain ⟨lo, hlo⟩ : ∃ lo, lo = max be (st - 8 - 1) := ⟨_, rfl⟩
  have hN : Hid (R = (seekN p st (st - lo + 1).toNat).elim (0, false) (fun y => ((at1 y).1, true))) := Lib.hid (by rw [hF.out, hlo, show st - 8 - 1 = st - 9 by omega])
  have lo1 : -10018 ≤ lo := by omega
  clear H1 H2 hF
  go_loopw [8] (fun yv wr => ∃ v : Int, yv = .int .i64 v ∧ v ≤ st ∧ Hid (R = (seekN p v (v - lo + 1).toNat).elim (0, false) (fun y => ((at1 y).1, true))) ∧ Hid (Below w.heap.size w wr) ∧ Hid (wr.heap[w.heap.size]? = some (.cells #[.int .i64 lk, .int .i64 lsec, .int .i64 lf, .int .i64 lt, .int .i64 lm, .int .i64 ldk, .int .i64 ldn, .int .i64 ldw, .int .i64 lti, .int .i64 lrd, .int .i64 lof, .bool lds, .string (bs lab)] 58 (0, 0)))) (fun yv _ => (intOf yv - lo + 1).toNat)
  case atStart => exact ⟨st, rfl, Int.le_refl _, hN, B2, A1⟩
  case round =>
    obtain ⟨v, rfl, hv, hR, B20, A2⟩ := hrel
    obtain ⟨V20, rfl⟩ : ∃ V, V = wr := ⟨_, rfl⟩
    clear A1 B2 hN
    by_cases hc : lo ≤ v
    · have d := decide_eq_true hc
      rw [hlo] at d
      have hp := hH.out v
      have H := Lib.hid (fun w hM => H3.out v w hM)
      have e1 : (v - lo + 1).toNat = (v - 1 - lo + 1).toNat + 1 := by omega
      have hw : IntKind.i64.wrap (v - 1) = v - 1 := w64 (by omega) (by omega)
      have ht : p v = true → R = ((at1 v).1, true) := fun h => by rw [hR.out, e1, seek_hit h]; rfl
      have hf : p v = false → R = (seekN p (v - 1) (v - 1 - lo + 1).toNat).elim (0, false) (fun y => ((at1 y).1, true)) := fun h => by rw [hR.out, e1, seek_miss h]
      generalize hav : at1 v = av at *
      obtain ⟨a, ok⟩ := av
      simp only at hp ht H
      replace hav := Lib.hid hav
      replace hlo := Lib.hid hlo
      clear hR e1
      generalize p v = pv at *
      
      obtain ⟨A2_0, A2_1, A2_2, A2_3, A2_4, A2_5, A2_6, A2_7, A2_8, A2_9, A2_10, A2_11, A2_12⟩ := qw13 A2
      have zA2 := lt_of_heap A2.out
      
      cases ok
      · have E2 := Lib.hid (hf (by rw [hp]; rfl))
        clear ht hf hp
        
        go_wp2_with fail
        refine (H.out _ (by first | exact md_keep hM (B20.out) | exact md_keep hM ((B20.out).alloc (B20.out.size) _) | exact md_keep hM (((B20.out).alloc (B20.out.size) _).alloc (by have := B20.out.size; simp <;> omega) _) | exact md_keep hM ((((B20.out).alloc (B20.out.size) _).alloc (by have := B20.out.size; simp <;> omega) _).alloc (by have := B20.out.size; simp <;> omega) _))).mono ?_
        rintro e V21 ⟨rfl, hb21⟩
        clear A2_0 A2_1 A2_2 A2_3 A2_4 A2_5 A2_6 A2_7 A2_8 A2_9 A2_10 A2_11 A2_12 zA2
        have B21 : Hid (Below w.heap.size w V21) := nbx B20 hb21
        replace A2 := rcx hb21 A2
        clear hb21
        obtain ⟨A2_0, A2_1, A2_2, A2_3, A2_4, A2_5, A2_6, A2_7, A2_8, A2_9, A2_10, A2_11, A2_12⟩ := qw13 A2
        have zA2 := lt_of_heap A2.out
        go_simp
        go_wp2
        go_roundw
        case rel => exact ⟨v - 1, rfl, by omega, E2, B21, A2⟩
        case measure => simp [intOf]; omega
      · by_cases hx : a ≤ x
        · have dx := decide_eq_true hx
          have E2 := Lib.hid (ht (by rw [hp, dx]; rfl))
          clear ht hf hp
          
          go_wp2_with fail
          refine (H.out _ (by first | exact md_keep hM (B20.out) | exact md_keep hM ((B20.out).alloc (B20.out.size) _) | exact md_keep hM (((B20.out).alloc (B20.out.size) _).alloc (by have := B20.out.size; simp <;> omega) _) | exact md_keep hM ((((B20.out).alloc (B20.out.size) _).alloc (by have := B20.out.size; simp <;> omega) _).alloc (by have := B20.out.size; simp <;> omega) _))).mono ?_
          rintro e V21 ⟨rfl, hb21⟩
          clear A2_0 A2_1 A2_2 A2_3 A2_4 A2_5 A2_6 A2_7 A2_8 A2_9 A2_10 A2_11 A2_12 zA2
          have B21 : Hid (Below w.heap.size w V21) := nbx B20 hb21
          replace A2 := rcx hb21 A2
          clear hb21
          obtain ⟨A2_0, A2_1, A2_2, A2_3, A2_4, A2_5, A2_6, A2_7, A2_8, A2_9, A2_10, A2_11, A2_12⟩ := qw13 A2
          have zA2 := lt_of_heap A2.out
          go_simp
          go_wp2
          go_ret2
          exact ⟨by rw [E2.out]; rfl, B21.out⟩
        · have dx := decide_eq_false hx
          have E2 := Lib.hid (hf (by rw [hp, dx]; rfl))
          clear ht hf hp
          
          go_wp2_with fail
          refine (H.out _ (by first | exact md_keep hM (B20.out) | exact md_keep hM ((B20.out).alloc (B20.out.size) _) | exact md_keep hM (((B20.out).alloc (B20.out.size) _).alloc (by have := B20.out.size; simp <;> omega) _) | exact md_keep hM ((((B20.out).alloc (B20.out.size) _).alloc (by have := B20.out.size; simp <;> omega) _).alloc (by have := B20.out.size; simp <;> omega) _))).mono ?_
          rintro e V21 ⟨rfl, hb21⟩
          clear A2_0 A2_1 A2_2 A2_3 A2_4 A2_5 A2_6 A2_7 A2_8 A2_9 A2_10 A2_11 A2_12 zA2
          have B21 : Hid (Below w.heap.size w V21) := nbx B20 hb21
          replace A2 := rcx hb21 A2
          clear hb21
          obtain ⟨A2_0, A2_1, A2_2, A2_3, A2_4, A2_5, A2_6, A2_7, A2_8, A2_9, A2_10, A2_11, A2_12⟩ := qw13 A2
          have zA2 := lt_of_heap A2.out
          go_simp
          go_wp2
          go_roundw
          case rel => exact ⟨v - 1, rfl, by omega, E2, B21, A2⟩
          case measure => simp [intOf]; omega
    · have d := decide_eq_false hc
      rw [hlo] at d
      have E2 : Hid (R = (0, false)) := Lib.hid (by rw [hR.out, show (v - lo + 1).toNat = 0 by omega]; rfl)
      replace hlo := Lib.hid hlo
      clear hR
      go_wp2
      go_ret2
      exact ⟨by rw [E2.out]; rfl, B20.out⟩
end Go.Proofs.YtafecnlaodgmkaaGreatDoor
namespace Go.Proofs.YtafecnlaodgmkaaGreatDoor
set_option linter.unusedVariables false
set_option linter.unusedSimpArgs false
open Go.ChangeShapes Go.WideShapes Go.ChangeAt Go.RowKit
def hsS (YF : Int → Int) (ls : List Lin) (x : Int) (bt : Tri) : Nat → Int × Tri
  | 0 => (-377705116800, bt)
  | k + 1 => match lnA YF ls x k with
    | some a => if (hsS YF ls x bt k).1 ≤ a then (a, (ls[k]?).elim (0, false, []) triOf) else hsS YF ls x bt k
    | none => hsS YF ls x bt k
theorem hsS_none {YF : Int → Int} {ls : List Lin} {x : Int} {bt : Tri} {k : Nat} (h : lnA YF ls x k = none) : hsS YF ls x bt (k + 1) = hsS YF ls x bt k := by
  show (match lnA YF ls x k with | some a => if (hsS YF ls x bt k).1 ≤ a then (a, (ls[k]?).elim (0, false, []) triOf) else hsS YF ls x bt k | none => hsS YF ls x bt k) = _
  rw [h]
theorem hsS_yes {YF : Int → Int} {ls : List Lin} {x : Int} {bt : Tri} {k : Nat} {a : Int} {l : Lin} (h : lnA YF ls x k = some a) (ha : (hsS YF ls x bt k).1 ≤ a) (hl : ls[k]? = some l) : hsS YF ls x bt (k + 1) = (a, triOf l) := by
  show (match lnA YF ls x k with | some a => if (hsS YF ls x bt k).1 ≤ a then (a, (ls[k]?).elim (0, false, []) triOf) else hsS YF ls x bt k | none => hsS YF ls x bt k) = _
  rw [h]
  simp only
  rw [if_pos ha, hl]
  rfl
theorem hsS_no {YF : Int → Int} {ls : List Lin} {x : Int} {bt : Tri} {k : Nat} {a : Int} (h : lnA YF ls x k = some a) (ha : ¬ (hsS YF ls x bt k).1 ≤ a) : hsS YF ls x bt (k + 1) = hsS YF ls x bt k := by
  show (match lnA YF ls x k with | some a => if (hsS YF ls x bt k).1 ≤ a then (a, (ls[k]?).elim (0, false, []) triOf) else hsS YF ls x bt k | none => hsS YF ls x bt k) = _
  rw [h]
  simp only
  rw [if_neg ha]
theorem hsS_min {YF : Int → Int} {ls : List Lin} {x : Int} {bt : Tri} : ∀ k, -377705116800 ≤ (hsS YF ls x bt k).1 := by
  intro k
  induction k with
  | zero => exact Int.le_refl _
  | succ k ih =>
    cases h : lnA YF ls x k with
    | none => rw [hsS_none h]; exact ih
    | some a =>
      by_cases ha : (hsS YF ls x bt k).1 ≤ a
      · show -377705116800 ≤ (match lnA YF ls x k with | some a => if (hsS YF ls x bt k).1 ≤ a then (a, (ls[k]?).elim (0, false, []) triOf) else hsS YF ls x bt k | none => hsS YF ls x bt k).1
        rw [h]
        simp only
        rw [if_pos ha]
        exact Int.le_trans ih ha
      · rw [hsS_no h ha]; exact ih
theorem hsS_ah {YF : Int → Int} (hYF : ∀ S, YIs S (YF S)) {ls : List Lin} (hOk : ∀ l ∈ ls, OkL l) {x : Int} (hx : x ≤ 253402300799) {bt : Tri} : ∀ k, k ≤ ls.length →
    ((ahS (lnA YF ls x) k).2 < 0 ∧ hsS YF ls x bt k = (-377705116800, bt)) ∨ (0 ≤ (ahS (lnA YF ls x) k).2 ∧ hsS YF ls x bt k = ((ahS (lnA YF ls x) k).1, (ls[(ahS (lnA YF ls x) k).2.toNat]?).elim (0, false, []) triOf)) := by
  intro k
  induction k with
  | zero => intro _; exact Or.inl ⟨by show (-1 : Int) < 0; decide, rfl⟩
  | succ k ih =>
    intro hk
    have ih := ih (by omega)
    have hl : ls[k]? = some ls[k] := List.getElem?_eq_getElem (by omega)
    have hS : ahS (lnA YF ls x) (k + 1) = stepA (ahS (lnA YF ls x) k) k (lnA YF ls x k) := rfl
    rw [hS]
    cases h : lnA YF ls x k with
    | none => rw [hsS_none h, stepA_none]; exact ih
    | some a =>
      have hmin : -377705116800 ≤ a := by
        have h2 : lineA YF ls[k] x = some a := by unfold lnA at h; rw [hl] at h; exact h
        obtain ⟨⟨y, hy⟩, _⟩ := lineA_some hYF (hOk _ (List.getElem_mem (by omega))) hx h2
        exact hy.2.1
      rw [stepA_some]
      rcases ih with ⟨h1, h2⟩ | ⟨h1, h2⟩
      · rw [if_pos (Or.inl h1), hsS_yes h (by rw [h2]; exact hmin) hl]
        right
        exact ⟨by show (0 : Int) ≤ (k : Int); omega, by rw [show ((a, (k : Int)) : Int × Int).2.toNat = k from Int.toNat_natCast k, hl]; rfl⟩
      · by_cases ha : (ahS (lnA YF ls x) k).1 ≤ a
        · rw [if_pos (Or.inr ha), hsS_yes h (by rw [h2]; exact ha) hl]
          right
          exact ⟨by show (0 : Int) ≤ (k : Int); omega, by rw [show ((a, (k : Int)) : Int × Int).2.toNat = k from Int.toNat_natCast k, hl]; rfl⟩
        · rw [if_neg (fun e => by rcases e with e | e; omega; exact ha e), hsS_no h (by rw [h2]; exact ha)]
          exact Or.inr ⟨h1, h2⟩
theorem ahT_hs {YF : Int → Int} (hYF : ∀ S, YIs S (YF S)) {z : Src} (hOk : ∀ l ∈ z.lns, OkL l) {x : Int} (hx : x ≤ 253402300799) : ahT YF z x = (hsS YF z.lns x (z.off, z.dst, z.abb) z.lns.length).2 := by
  unfold ahT
  rcases hsS_ah hYF hOk hx (bt := (z.off, z.dst, z.abb)) z.lns.length (Nat.le_refl _) with ⟨h1, h2⟩ | ⟨h1, h2⟩
  · rw [if_pos h1, h2]
  · rw [if_neg (by omega), h2]
    rfl
theorem row_two (w : World) (a b : Obj) : ((w.alloc a).alloc b).heap[w.heap.size + 1]? = some b := by
  have h := heap_alloc_new (w.alloc a) b
  rwa [show (w.alloc a).heap.size = w.heap.size + 1 by simp] at h
theorem row_third (w : World) (a b c : Obj) : (((w.alloc a).alloc b).alloc c).heap[w.heap.size + 1 + 1]? = some c := by
  have h := heap_alloc_new ((w.alloc a).alloc b) c
  rwa [show ((w.alloc a).alloc b).heap.size = w.heap.size + 1 + 1 by simp] at h
set_option maxHeartbeats 6400000 in
set_option maxRecDepth 100000 in
theorem xHas_any {YF : Int → Int} (hYF : ∀ S, YIs S (YF S)) (z : Src) (hOk : ∀ l ∈ z.lns, OkL l) (hL : z.lns.length ≤ 1000000) (A : Option Addr) (c : Nat) (x : Int) (hx : x ≤ 253402300799) (w : World) (hM : MD w) (h : Rd w A (linVs z.lns)) :
    Calls Tryz.prog 31 #[srcV z A c, .int .i64 x] w fun e w' => e = .returned (.agg #[.int .i64 (ahT YF z x).1, .bool (ahT YF z x).2.1, .string (bs (ahT YF z x).2.2)]) ∧ Below w.heap.size w w' := by
  obtain ⟨Y, hY⟩ := yo_ex x
  have HLM := Lib.hid (fun l (hl : OkL l) => xLastMoment_any hYF l hl hY)
  have HFL := Lib.hid (fun l (hl : OkL l) => fnd_line hYF hl hx hY (fnd_of YF l x Y))
  have hE := Lib.hid (ahT_hs hYF hOk hx)
  have hH := Lib.hid h
  have hOk2 := Lib.hid hOk
  obtain ⟨nam, off, dst, abb, ls⟩ := z
  unfold srcV
  simp only at *
  clear h hOk hY
  generalize ahT YF ⟨nam, off, dst, abb, ls⟩ x = R at *
  obtain ⟨bt, hbt⟩ : ∃ bt : Tri, Hid (bt = (off, dst, abb)) := ⟨_, Lib.hid rfl⟩
  rw [← hbt.out] at hE
  replace hM := Lib.hid hM
  go_enter Tryz.func31, Tryz.ntmps31
  refine wp_shut ?_
  go_wp2
  go_loopw [6, 16] (fun fv iv wr => ∃ k : Nat, k ≤ ls.length ∧ iv = .int .i64 (k : Int) ∧ fv = .int .i64 (hsS YF ls x bt k).1 ∧ Hid (Below w.heap.size w wr) ∧ Hid (wr.heap[w.heap.size]? = some (.cells #[.string (bs nam), .int .i64 off, .bool dst, .string (bs abb), .slice A ls.length c] 30 (0, 0))) ∧ Hid (wr.heap[w.heap.size + 1]? = some (.cells #[.int .i64 0, .bool false, .string ⟨#[]⟩] 27 (0, 0))) ∧ Hid (wr.heap[w.heap.size + 1 + 1]? = some (.cells #[.int .i64 (hsS YF ls x bt k).2.1, .bool (hsS YF ls x bt k).2.2.1, .string (bs (hsS YF ls x bt k).2.2.2)] 27 (0, 0)))) (fun _ i _ => ls.length - (intOf i).toNat)
  case atStart =>
    refine ⟨0, by omega, rfl, rfl, Lib.hid ((((Below.refl _ w).alloc (Nat.le_refl _) _).alloc (by simp) _).alloc (by simp; omega) _), Lib.hid (row_alloc (row_alloc (heap_alloc_new w _) _) _), Lib.hid (row_alloc (row_two w _ _) _), Lib.hid ?_⟩
    show _ = some (Obj.cells #[.int .i64 bt.1, .bool bt.2.1, .string (bs bt.2.2)] _ _)
    rw [hbt.out]
    exact row_third w _ _ _
  case round =>
    obtain ⟨k, hk, rfl, rfl, B20, S1, Z1, T1⟩ := hrel
    obtain ⟨V20, rfl⟩ : ∃ V, V = wr := ⟨_, rfl⟩
    by_cases hlt : k < ls.length
    · obtain ⟨b, o, rfl, hbl, hc⟩ := (hH.out.below B20.out (Nat.le_refl _)).lin hlt
      obtain ⟨c0, c1, c2, c3, c4, c5, c6, c7, c8, c9, c10, c11, c12⟩ := hc k hlt
      have hkT : (k : Int) < (ls.length : Int) := by omega
      have hlk2 : ls[k]? = some ls[k] := List.getElem?_eq_getElem hlt
      have hLA : lnA YF ls x k = lineA YF ls[k] x := by unfold lnA; rw [hlk2]; rfl
      have hok := hOk2.out ls[k] (List.getElem_mem hlt)
      have hfl := HFL.out ls[k] hok
      have H := Lib.hid (HLM.out ls[k] hok)
      have hmin := hsS_min (YF := YF) (ls := ls) (x := x) (bt := bt) k
      rw [← hLA] at hfl
      have n1 := fun h => hsS_none (YF := YF) (ls := ls) (x := x) (bt := bt) (k := k) h
      have n2 := fun a h ha => hsS_yes (YF := YF) (ls := ls) (x := x) (bt := bt) (k := k) (a := a) h ha hlk2
      have n3 := fun a h ha => hsS_no (YF := YF) (ls := ls) (x := x) (bt := bt) (k := k) (a := a) h ha
      generalize hN : hsS YF ls x bt (k + 1) = N at *
      replace hN := Lib.hid hN
      generalize hsS YF ls x bt k = st at *
      obtain ⟨fd, t0, t1, t2⟩ := st
      simp only at *
      generalize lnA YF ls x k = la at *
      generalize fndV YF ls[k] x Y = fn at *
      obtain ⟨a, ok⟩ := fn
      simp only at *
      clear hc hok hLA hlk2 HFL
      generalize hlk : ls[k] = l at *
      obtain ⟨lk, lsec, lf, lt, lm, ldk, ldn, ldw, lti, lrd, lof, lds, lab⟩ := l
      unfold linA at H
      simp only [triOf] at c0 c1 c2 c3 c4 c5 c6 c7 c8 c9 c10 c11 c12 H n2
      replace hlk := Lib.hid hlk
      
      obtain ⟨S1_0, S1_1, S1_2, S1_3, S1_4⟩ := qw5 S1
      have zS1 := lt_of_heap S1.out
      obtain ⟨Z1_0, Z1_1, Z1_2⟩ := qw3 Z1
      have zZ1 := lt_of_heap Z1.out
      obtain ⟨T1_0, T1_1, T1_2⟩ := qw3 T1
      have zT1 := lt_of_heap T1.out
      
      cases ok
      · have E : Hid (N = (fd, t0, t1, t2)) := Lib.hid (n1 (by rw [hfl]; exact if_neg (fun e => by cases e.1)))
        clear hfl n1 n2 n3
        
        go_wp2_with fail
        refine (H.out _ (by first | exact md_keep hM ((B20.out).alloc (B20.out.size) _))).mono ?_
        rintro e V21 ⟨rfl, hb21⟩
        clear S1_0 S1_1 S1_2 S1_3 S1_4 zS1 Z1_0 Z1_1 Z1_2 zZ1 T1_0 T1_1 T1_2 zT1
        have nS1L1 := Lib.hid (lt_of_heap S1.out)
        have nZ1L1 := Lib.hid (lt_of_heap Z1.out)
        have nT1L1 := Lib.hid (lt_of_heap T1.out)
        have B21 := Lib.hid (((B20.out).alloc (B20.out.size) _).trans (hb21.mono (by have := B20.out.size; first | assumption | (simp <;> omega) | (simp; done))))
        replace S1 := Lib.hid (row_call hb21 (row_alloc S1.out _))
        replace Z1 := Lib.hid (row_call hb21 (row_alloc Z1.out _))
        replace T1 := Lib.hid (row_call hb21 (row_alloc T1.out _))
        have L1 := Lib.hid (row_call hb21 (heap_alloc_new _ _))
        clear hb21
        obtain ⟨S1_0, S1_1, S1_2, S1_3, S1_4⟩ := qw5 S1
        obtain ⟨Z1_0, Z1_1, Z1_2⟩ := qw3 Z1
        obtain ⟨T1_0, T1_1, T1_2⟩ := qw3 T1
        obtain ⟨L1_0, L1_1, L1_2, L1_3, L1_4, L1_5, L1_6, L1_7, L1_8, L1_9, L1_10, L1_11, L1_12⟩ := qw13 L1
        have zS1 := lt_of_heap S1.out
        have zZ1 := lt_of_heap Z1.out
        have zT1 := lt_of_heap T1.out
        have zL1 := lt_of_heap L1.out
        go_simp
        go_wp2
        go_roundw
        case rel => exact ⟨k + 1, by omega, by go_num, by rw [hN.out, E.out], B21, S1, Z1, by rw [hN.out, E.out]; exact T1⟩
        case measure => simp [intOf]; omega
      · by_cases ha : fd ≤ a
        · have d := decide_eq_true ha
          have E : Hid (N = (a, lof, lds, lab)) := Lib.hid (n2 a (by rw [hfl]; exact if_pos ⟨rfl, by omega⟩) ha)
          clear hfl n1 n2 n3
          
          go_wp2_with fail
          refine (H.out _ (by first | exact md_keep hM ((B20.out).alloc (B20.out.size) _))).mono ?_
          rintro e V21 ⟨rfl, hb21⟩
          clear S1_0 S1_1 S1_2 S1_3 S1_4 zS1 Z1_0 Z1_1 Z1_2 zZ1 T1_0 T1_1 T1_2 zT1
          have nS1L1 := Lib.hid (lt_of_heap S1.out)
          have nZ1L1 := Lib.hid (lt_of_heap Z1.out)
          have nT1L1 := Lib.hid (lt_of_heap T1.out)
          have B21 := Lib.hid (((B20.out).alloc (B20.out.size) _).trans (hb21.mono (by have := B20.out.size; first | assumption | (simp <;> omega) | (simp; done))))
          replace S1 := Lib.hid (row_call hb21 (row_alloc S1.out _))
          replace Z1 := Lib.hid (row_call hb21 (row_alloc Z1.out _))
          replace T1 := Lib.hid (row_call hb21 (row_alloc T1.out _))
          have L1 := Lib.hid (row_call hb21 (heap_alloc_new _ _))
          clear hb21
          obtain ⟨S1_0, S1_1, S1_2, S1_3, S1_4⟩ := qw5 S1
          obtain ⟨Z1_0, Z1_1, Z1_2⟩ := qw3 Z1
          obtain ⟨T1_0, T1_1, T1_2⟩ := qw3 T1
          obtain ⟨L1_0, L1_1, L1_2, L1_3, L1_4, L1_5, L1_6, L1_7, L1_8, L1_9, L1_10, L1_11, L1_12⟩ := qw13 L1
          have zS1 := lt_of_heap S1.out
          have zZ1 := lt_of_heap Z1.out
          have zT1 := lt_of_heap T1.out
          have zL1 := lt_of_heap L1.out
          go_simp
          have rT1 := setRow_heap V21 (w.heap.size + 1 + 1) _ #[Value.int .i64 lof, Value.bool lds, Value.string (bs lab)] _ _ T1.out
          obtain ⟨rT1_0, rT1_1, rT1_2⟩ := qv3 rT1
          go_wp2_with (refine wpList_store_row (by rfl) 27 _ _ (by rfl) (w.heap.size + 1 + 1) #[Value.int .i64 lof, Value.bool lds, Value.string (bs lab)] (by rfl) (by rfl) _ _ T1.out (by kernel_rfl) (by rfl) (by simp [Value.oneCell']) ?_)
          go_wp2
          go_roundw
          case rel =>
            refine ⟨k + 1, by omega, by go_num, by rw [hN.out, E.out], Lib.hid (keepRow B21.out (by omega) _), Lib.hid (row_otherR (by omega) S1.out _), Lib.hid (row_otherR (by omega) Z1.out _), ?_⟩
            rw [hN.out, E.out]
            exact Lib.hid rT1
          case measure => simp [intOf]; omega
        · have d := decide_eq_false ha
          have E : Hid (N = (fd, t0, t1, t2)) := Lib.hid (by
            by_cases hm : -377705116800 ≤ a
            · exact n3 a (by rw [hfl]; exact if_pos ⟨rfl, hm⟩) ha
            · exact n1 (by rw [hfl]; exact if_neg (fun e => hm e.2)))
          clear hfl n1 n2 n3
          
          go_wp2_with fail
          refine (H.out _ (by first | exact md_keep hM ((B20.out).alloc (B20.out.size) _))).mono ?_
          rintro e V21 ⟨rfl, hb21⟩
          clear S1_0 S1_1 S1_2 S1_3 S1_4 zS1 Z1_0 Z1_1 Z1_2 zZ1 T1_0 T1_1 T1_2 zT1
          have nS1L1 := Lib.hid (lt_of_heap S1.out)
          have nZ1L1 := Lib.hid (lt_of_heap Z1.out)
          have nT1L1 := Lib.hid (lt_of_heap T1.out)
          have B21 := Lib.hid (((B20.out).alloc (B20.out.size) _).trans (hb21.mono (by have := B20.out.size; first | assumption | (simp <;> omega) | (simp; done))))
          replace S1 := Lib.hid (row_call hb21 (row_alloc S1.out _))
          replace Z1 := Lib.hid (row_call hb21 (row_alloc Z1.out _))
          replace T1 := Lib.hid (row_call hb21 (row_alloc T1.out _))
          have L1 := Lib.hid (row_call hb21 (heap_alloc_new _ _))
          clear hb21
          obtain ⟨S1_0, S1_1, S1_2, S1_3, S1_4⟩ := qw5 S1
          obtain ⟨Z1_0, Z1_1, Z1_2⟩ := qw3 Z1
          obtain ⟨T1_0, T1_1, T1_2⟩ := qw3 T1
          obtain ⟨L1_0, L1_1, L1_2, L1_3, L1_4, L1_5, L1_6, L1_7, L1_8, L1_9, L1_10, L1_11, L1_12⟩ := qw13 L1
          have zS1 := lt_of_heap S1.out
          have zZ1 := lt_of_heap Z1.out
          have zT1 := lt_of_heap T1.out
          have zL1 := lt_of_heap L1.out
          go_simp
          go_wp2
          go_roundw
          case rel => exact ⟨k + 1, by omega, by go_num, by rw [hN.out, E.out], B21, S1, Z1, by rw [hN.out, E.out]; exact T1⟩
          case measure => simp [intOf]; omega
    · obtain rfl : k = ls.length := by omega
      rw [← hE.out] at T1
      have hkT : ¬ ((ls.length : Int) < (ls.length : Int)) := by omega
      clear hlt
      
      obtain ⟨Z1_0, Z1_1, Z1_2⟩ := qw3 Z1
      have zZ1 := lt_of_heap Z1.out
      obtain ⟨T1_0, T1_1, T1_2⟩ := qw3 T1
      have zT1 := lt_of_heap T1.out
      go_simp
      have rZ1 := setRow_heap V20 (w.heap.size + 1) _ #[Value.int .i64 R.1, Value.bool R.2.1, Value.string (bs R.2.2)] _ _ Z1.out
      obtain ⟨rZ1_0, rZ1_1, rZ1_2⟩ := qv3 rZ1
      go_wp2_with (refine wpList_store_row (by rfl) 27 _ _ (by rfl) (w.heap.size + 1) #[Value.int .i64 R.1, Value.bool R.2.1, Value.string (bs R.2.2)] (by rfl) (by rfl) _ _ Z1.out (by kernel_rfl) (by rfl) (by simp [Value.oneCell']) ?_)
      refine shut_ret (v := .agg #[.int .i64 R.1, .bool R.2.1, .string (bs R.2.2)]) (by simp [results, Tryz.results31, go_sem, rZ1_0, rZ1_1, rZ1_2]) rfl ⟨rfl, keepRow B20.out (by omega) _⟩
end Go.Proofs.YtafecnlaodgmkaaGreatDoor
namespace Go.Proofs.YtafecnlaodgmkaaGreatDoor
set_option linter.unusedVariables false
set_option linter.unusedSimpArgs false
open Go.ChangeShapes Go.WideShapes Go.ChangeAt Go.RowKit
theorem kx_md {w : World} (h : KX w) : MD w := h.tw.tb.md
end Go.Proofs.YtafecnlaodgmkaaGreatDoor
namespace Go.Proofs.YtafecnlaodgmkaaGreatDoor
set_option linter.unusedVariables false
set_option linter.unusedSimpArgs false
open Go.ChangeShapes Go.WideShapes Go.ChangeAt Go.RowKit
theorem infoMom : (Tryz.prog.info? 91).map (fun i => (i.zero, i.size, i.bytes)) = some (some (.agg #[.int .i64 0, .int .i64 0]), 2, 16) := by kernel_rfl
theorem lens {YF : Int → Int} {lo hi : Int} {ls : List Lin} {y0 y : Int} {n k : Nat} (hL : ls.length ≤ 16) (hn : n ≤ 30000) (hk : k ≤ ls.length) : (allM YF lo hi ls y0 n).length + (yrM YF lo hi ls y k).length ≤ 500000 := by
  have a := allM_len YF lo hi ls y0 n
  have b := yrM_len YF lo hi ls y k
  have c : n * ls.length ≤ 30000 * 16 := Nat.mul_le_mul hn hL
  omega
set_option maxHeartbeats 12800000 in
set_option maxRecDepth 100000 in
theorem xMoments_any {YF : Int → Int} (hYF : ∀ S, YIs S (YF S)) (ls : List Lin) (hOk : ∀ l ∈ ls, OkL l) (hL : ls.length ≤ 16) (A : Option Addr) (c : Nat) (f t : Int) (f1 : -9999 ≤ f) (hft : f ≤ t) (t2 : t ≤ 9999) (w : World) (hM : MD w) (h : Rd w A (linVs ls)) :
    Calls Tryz.prog 53 #[.slice A ls.length c, .int .i64 f, .int .i64 t] w fun e w' => (∃ (D : Array Mom) (A2 : Option Addr) (c2 : Nat), e = .returned (.slice A2 (onceL D D.size).length c2) ∧ Rd w' A2 (momVs (onceL D D.size)) ∧ (∀ m, m ∈ D.toList ↔ m ∈ allM YF (staI f) (staI (t + 1)) ls (f - 1) (t - f + 3).toNat) ∧ SrtM D ∧ D.size ≤ 1000000) ∧ Below w.heap.size w w' := by
  obtain ⟨N, hN⟩ : ∃ N : Nat, (t - f + 3).toNat = N := ⟨_, rfl⟩
  rw [hN]
  have hNa : (N : Int) ≤ t - f + 3 := by omega
  have hNb : t - f + 3 ≤ (N : Int) := by omega
  have H1 := Lib.hid (xFirst_any f (by omega) (by omega))
  have H2 := Lib.hid (xFirst_any (t + 1) (by omega) (by omega))
  have HA := Lib.hid (fun l (hl : OkL l) y => pYrAt_any hYF l hl y)
  obtain ⟨i0, hi, hz0, hz1, hz2⟩ := info_parts infoMom
  have hwt : IntKind.i64.wrap (t + 1) = t + 1 := w64 (by omega) (by omega)
  have hwf : IntKind.i64.wrap (f - 1) = f - 1 := w64 (by omega) (by omega)
  have hH := Lib.hid h
  have hOk2 := Lib.hid hOk
  replace hM := Lib.hid hM
  replace hN := Lib.hid hN
  generalize staI f = lo at *
  generalize staI (t + 1) = hi' at *
  clear h hOk
  go_enter Tryz.func53, Tryz.ntmps53
  go_wp2_with fail
  
  refine (H1.out _ (by first | exact md_keep hM (Below.refl w.heap.size w) | exact md_keep hM ((Below.refl w.heap.size w).alloc (Nat.le_refl _) _) | exact md_keep hM (((Below.refl w.heap.size w).alloc (Nat.le_refl _) _).alloc (by simp <;> omega) _) | exact md_keep hM ((((Below.refl w.heap.size w).alloc (Nat.le_refl _) _).alloc (by simp <;> omega) _).alloc (by simp <;> omega) _))).mono ?_
  rintro e V1 ⟨rfl, hb1⟩
  have B1 : Hid (Below w.heap.size w V1) := by first | exact Lib.hid ((Below.refl w.heap.size w).trans (hb1.mono (by first | assumption | (simp <;> omega) | (simp; done)))) | exact Lib.hid (((Below.refl w.heap.size w).alloc (Nat.le_refl _) _).trans (hb1.mono (by first | assumption | (simp <;> omega) | (simp; done)))) | exact Lib.hid ((((Below.refl w.heap.size w).alloc (Nat.le_refl _) _).alloc (by simp <;> omega) _).trans (hb1.mono (by first | assumption | (simp <;> omega) | (simp; done)))) | exact Lib.hid (((((Below.refl w.heap.size w).alloc (Nat.le_refl _) _).alloc (by simp <;> omega) _).alloc (by simp <;> omega) _).trans (hb1.mono (by first | assumption | (simp <;> omega) | (simp; done))))
  clear hb1
  go_simp
  go_wp2_with fail
  refine (H2.out _ (by first | exact md_keep hM (B1.out) | exact md_keep hM ((B1.out).alloc (B1.out.size) _) | exact md_keep hM (((B1.out).alloc (B1.out.size) _).alloc (by have := B1.out.size; simp <;> omega) _) | exact md_keep hM ((((B1.out).alloc (B1.out.size) _).alloc (by have := B1.out.size; simp <;> omega) _).alloc (by have := B1.out.size; simp <;> omega) _))).mono ?_
  rintro e V2 ⟨rfl, hb2⟩
  have B2 : Hid (Below w.heap.size w V2) := nbx B1 hb2
  clear hb2
  go_simp
  go_wp2
  go_loopw [9, 10] (fun av yv wr => ∃ (n : Nat) (y : Int), yv = .int .i64 y ∧ n ≤ N ∧ Hid (y = f - 1 + (n : Int)) ∧ wr.ownsRow w.heap.size 91 2 av (allM YF lo hi' ls (f - 1) n).length (momVs (allM YF lo hi' ls (f - 1) n)) ∧ Hid (Below w.heap.size w wr)) (fun _ yv _ => (t + 2 - intOf yv).toNat)
  case atStart => exact ⟨0, f - 1, rfl, by omega, Lib.hid (by omega), ⟨rfl, Or.inl ⟨rfl, rfl⟩⟩, B2⟩
  case round =>
    obtain ⟨n, y, rfl, hn, hy, hto, hBw⟩ := hrel
    clear B2 H1 H2
    have hy2 := hy.out
    by_cases hlt : n < N
    · have dy : decide (y ≤ t + 1) = true := decide_eq_true (by omega)
      have hwy : IntKind.i64.wrap (y + 1) = y + 1 := w64 (by omega) (by omega)
      obtain ⟨al, hal⟩ : ∃ al, allM YF lo hi' ls (f - 1) n = al := ⟨_, rfl⟩
      have hlen := fun k (hk : k ≤ ls.length) => lens (YF := YF) (lo := lo) (hi := hi') (y0 := f - 1) (y := y) (n := n) hL (by omega) hk
      have hnext : allM YF lo hi' ls (f - 1) (n + 1) = al ++ yrM YF lo hi' ls y ls.length := by rw [allM_succ, hal, hy2]
      rw [hal] at hto hlen
      replace hnext := Lib.hid hnext
      have yb : y ≤ t + 1 := by omega
      have ya : f - 1 ≤ y := by omega
      clear hal hy2
      replace hwt := Lib.hid hwt
      have hwt2 := hwt.out
      go_wp2
      go_loopw [9, 30] (fun av iv wr => ∃ k : Nat, k ≤ ls.length ∧ iv = .int .i64 (k : Int) ∧ wr.ownsRow w.heap.size 91 2 av (al.length + (yrM YF lo hi' ls y k).length) (momVs (al ++ yrM YF lo hi' ls y k)) ∧ Hid (Below w.heap.size w wr)) (fun _ i _ => ls.length - (intOf i).toNat)
      case atStart => exact ⟨0, by omega, rfl, by simpa [yrM] using hto, hBw⟩
      case round =>
        obtain ⟨k, hk, rfl, hto, hBw⟩ := hrel
        obtain ⟨V20, rfl⟩ : ∃ V, V = wr := ⟨_, rfl⟩
        by_cases hlk : k < ls.length
        · obtain ⟨b, o, rfl, hbl, hc⟩ := (hH.out.below hBw.out (Nat.le_refl _)).lin hlk
          obtain ⟨c0, c1, c2, c3, c4, c5, c6, c7, c8, c9, c10, c11, c12⟩ := hc k hlk
          have hkT : (k : Int) < (ls.length : Int) := by omega
          have hok := hOk2.out ls[k] (List.getElem_mem hlk)
          have H := Lib.hid (HA.out ls[k] hok y)
          have hyes := yrM_yes (YF := YF) (lo := lo) (hi := hi') (y := y) hlk
          have hno := yrM_no (YF := YF) (lo := lo) (hi := hi') (y := y) hlk
          have hle := hlen k hk
          have hin : inM YF lo hi' ls[k] y = ((atV ls[k] (YF ls[k].s) y).2 && decide (lo ≤ (atV ls[k] (YF ls[k].s) y).1) && decide ((atV ls[k] (YF ls[k].s) y).1 < hi')) := rfl
          generalize inM YF lo hi' ls[k] y = inn at *
          generalize hym : yrM YF lo hi' ls y (k + 1) = ym' at *
          replace hym := Lib.hid hym
          generalize yrM YF lo hi' ls y k = ym at *
          generalize atV ls[k] (YF ls[k].s) y = av at *
          obtain ⟨a, ok⟩ := av
          simp only at hyes hin H
          clear hc hok
          generalize hlk2 : ls[k] = l at *
          obtain ⟨lk, lsec, lf, lt, lm, ldk, ldn, ldw, lti, lrd, lof, lds, lab⟩ := l
          unfold linA at H
          simp only at c0 c1 c2 c3 c4 c5 c6 c7 c8 c9 c10 c11 c12 H
          replace hlk2 := Lib.hid hlk2
          have hto2 := Lib.hid hto
          obtain ⟨TA, tc, tg, rfl, -⟩ := own_form hto
          have B20 := Lib.hid (Below.refl V20.heap.size V20)
          have hM := Lib.hid (md_keep hM hBw.out)
          have hbs := hBw.out.size
          clear hto
          
          
          cases ok
          · have E := Lib.hid (hno (by rw [hin]; rfl))
            clear hyes hno hin
            
            go_wp2_with fail
            refine (H.out _ (by first | exact md_keep hM ((B20.out).alloc (B20.out.size) _))).mono ?_
            rintro e V21 ⟨rfl, hb21⟩
            have B21 := Lib.hid (((B20.out).alloc (B20.out.size) _).trans (hb21.mono (by have := B20.out.size; first | assumption | (simp <;> omega) | (simp; done))))
            have L1 := Lib.hid (row_call hb21 (heap_alloc_new _ _))
            clear hb21
            obtain ⟨L1_0, L1_1, L1_2, L1_3, L1_4, L1_5, L1_6, L1_7, L1_8, L1_9, L1_10, L1_11, L1_12⟩ := qw13 L1
            have zL1 := lt_of_heap L1.out
            have ho := Lib.hid (own_up hto2.out B21.out)
            have hb1 := Lib.hid (hBw.out.trans (B21.out.mono hbs))
            go_simp
            go_wp2
            go_roundw
            case rel => exact ⟨k + 1, by omega, by go_num, by rw [hym.out, E.out]; exact ho.out, hb1⟩
            case measure => simp [intOf]; omega
          · by_cases h1 : lo ≤ a
            · have d1 := decide_eq_true h1
              by_cases h2 : a < hi'
              · have d2 := decide_eq_true h2
                have E := Lib.hid (hyes (by rw [hin, d1, d2]; rfl))
                clear hyes hno hin
                
                go_wp2_with fail
                refine (H.out _ (by first | exact md_keep hM ((B20.out).alloc (B20.out.size) _))).mono ?_
                rintro e V21 ⟨rfl, hb21⟩
                have B21 := Lib.hid (((B20.out).alloc (B20.out.size) _).trans (hb21.mono (by have := B20.out.size; first | assumption | (simp <;> omega) | (simp; done))))
                have L1 := Lib.hid (row_call hb21 (heap_alloc_new _ _))
                clear hb21
                obtain ⟨L1_0, L1_1, L1_2, L1_3, L1_4, L1_5, L1_6, L1_7, L1_8, L1_9, L1_10, L1_11, L1_12⟩ := qw13 L1
                have zL1 := lt_of_heap L1.out
                have ho := Lib.hid (own_up hto2.out B21.out)
                have hb1 := Lib.hid (hBw.out.trans (B21.out.mono hbs))
                have hsz := hb1.out.size
                go_simp
                go_wp2_with (first
                  | (at_builtin
                     refine wpList_append_lies _ rfl (.tmp 52) (.tmp 56) 88 rfl w.heap.size 91 i0 (.agg #[.int .i64 0, .int .i64 0]) 2 16 Tryz.underlying88 hi hz0 hz1 hz2 rfl (by decide) _ _ _ rfl (ho.out.alloc _) ⟨V21.heap.size, 0, none⟩ 1 1 [.int .i64 a, .int .i64 (k : Int)] rfl rfl (news2 _ _ _ _) (one2 rfl rfl) (by decide) (by unfold maxLen; omega) (by omega) (by simp; omega) _ rfl ?_
                     intro g cap w3 hown1 hgrow hat hlt1)
                  | fail)
                have hbl3 := Lib.hid (bel_append hb1.out hsz ho.out hgrow)
                have ho3 : Hid (w3.ownsRow w.heap.size 91 2 (.slice (some ⟨g, 0, none⟩) (al.length + ym.length + 1) cap) (al.length + ym'.length) (momVs (al ++ ym'))) := Lib.hid (by
                  rw [E.out, List.length_append, List.length_singleton, ← Nat.add_assoc, ← List.append_assoc, momVs_snoc]
                  exact hown1)
                clear hown1 hgrow hat hlt1
                go_wp2
                go_roundw
                case rel => exact ⟨k + 1, by omega, by go_num, by rw [hym.out]; exact ho3.out, hbl3⟩
                case measure => simp [intOf]; omega
              · have d2 := decide_eq_false h2
                have E := Lib.hid (hno (by rw [hin, d1, d2]; rfl))
                clear hyes hno hin
                
                go_wp2_with fail
                refine (H.out _ (by first | exact md_keep hM ((B20.out).alloc (B20.out.size) _))).mono ?_
                rintro e V21 ⟨rfl, hb21⟩
                have B21 := Lib.hid (((B20.out).alloc (B20.out.size) _).trans (hb21.mono (by have := B20.out.size; first | assumption | (simp <;> omega) | (simp; done))))
                have L1 := Lib.hid (row_call hb21 (heap_alloc_new _ _))
                clear hb21
                obtain ⟨L1_0, L1_1, L1_2, L1_3, L1_4, L1_5, L1_6, L1_7, L1_8, L1_9, L1_10, L1_11, L1_12⟩ := qw13 L1
                have zL1 := lt_of_heap L1.out
                have ho := Lib.hid (own_up hto2.out B21.out)
                have hb1 := Lib.hid (hBw.out.trans (B21.out.mono hbs))
                go_simp
                go_wp2
                go_roundw
                case rel => exact ⟨k + 1, by omega, by go_num, by rw [hym.out, E.out]; exact ho.out, hb1⟩
                case measure => simp [intOf]; omega
            · have d1 := decide_eq_false h1
              have E := Lib.hid (hno (by rw [hin, d1]; rfl))
              clear hyes hno hin
              
              go_wp2_with fail
              refine (H.out _ (by first | exact md_keep hM ((B20.out).alloc (B20.out.size) _))).mono ?_
              rintro e V21 ⟨rfl, hb21⟩
              have B21 := Lib.hid (((B20.out).alloc (B20.out.size) _).trans (hb21.mono (by have := B20.out.size; first | assumption | (simp <;> omega) | (simp; done))))
              have L1 := Lib.hid (row_call hb21 (heap_alloc_new _ _))
              clear hb21
              obtain ⟨L1_0, L1_1, L1_2, L1_3, L1_4, L1_5, L1_6, L1_7, L1_8, L1_9, L1_10, L1_11, L1_12⟩ := qw13 L1
              have zL1 := lt_of_heap L1.out
              have ho := Lib.hid (own_up hto2.out B21.out)
              have hb1 := Lib.hid (hBw.out.trans (B21.out.mono hbs))
              go_simp
              go_wp2
              go_roundw
              case rel => exact ⟨k + 1, by omega, by go_num, by rw [hym.out, E.out]; exact ho.out, hb1⟩
              case measure => simp [intOf]; omega
        · obtain rfl : k = ls.length := by omega
          have hkT : ¬ ((ls.length : Int) < (ls.length : Int)) := by omega
          clear hlk
          go_wp2
          go_roundw
          case rel => exact ⟨n + 1, y + 1, rfl, by omega, Lib.hid (by have := hy.out; omega), by rw [hnext.out, List.length_append]; exact hto, hBw⟩
          case measure => simp [intOf]; omega
    · have hnN : n = N := by omega
      have dy : decide (y ≤ t + 1) = false := decide_eq_false (by omega)
      rw [hnN] at hto
      obtain ⟨al, hal⟩ : ∃ al, allM YF lo hi' ls (f - 1) N = al := ⟨_, rfl⟩
      have hle : al.length ≤ 1000000 := by
        have := lens (YF := YF) (lo := lo) (hi := hi') (y0 := f - 1) (y := y) (n := N) (k := 0) hL (by omega) (by omega)
        rw [hal] at this
        omega
      rw [hal] at hto
      have hto2 := Lib.hid hto
      obtain ⟨TA, tc, tg, rfl, -⟩ := own_form hto
      generalize hm : al.length = m at *
      replace hm := Lib.hid hm
      replace hal := Lib.hid hal
      clear hto hy2 HA
      by_cases h0 : m = 0
      · subst h0
        have hA : al = [] := List.length_eq_zero_iff.1 hm.out
        subst hA
        go_wp2_with fail
        refine (xSort_none TA tc _ _).mono ?_
        rintro e w1 ⟨rfl, rfl⟩
        go_wp2_with fail
        refine (xCompact_few TA 0 tc (by decide) _ _).mono ?_
        rintro e w1 ⟨rfl, rfl⟩
        go_wp2
        go_ret
        exact ⟨⟨#[], TA, tc, rfl, fun j u hu => by simp [onceL, momVs] at hu, fun q => by rw [hal.out], fun i j _ hj => by simp at hj, by simp⟩, hBw.out⟩
      · obtain ⟨g, rfl, hBg, hcap, _, hR⟩ := own_rowM hto2.out (by omega)
        have HS := Lib.hid (xSort_any w.heap.size g tc m al.toArray (by simp [hm.out]) wr hR hBg hle)
        clear hR
        go_wp2_with fail
        refine HS.out.mono ?_
        rintro e w1 ⟨⟨D', rfl, hD1, hD2, hD3, hR1⟩, hb1⟩
        have HC := Lib.hid (xCompact_row w.heap.size g tc m D' hD1 w1 hR1 hBg hle hcap (by omega))
        replace hD1 := Lib.hid hD1
        replace hD2 := Lib.hid hD2
        replace hD3 := Lib.hid hD3
        replace hb1 := Lib.hid (hBw.out.trans hb1)
        clear hR1 HS
        go_wp2_with fail
        refine HC.out.mono ?_
        rintro e w2 ⟨⟨rfl, hrd⟩, hb2⟩
        replace hrd := Lib.hid hrd
        replace hb2 := Lib.hid (hb1.out.trans hb2)
        clear HC
        go_wp2
        go_ret
        exact ⟨⟨D', some ⟨g, 0, none⟩, tc, by rw [hD1.out]; rfl, by rw [hD1.out]; exact hrd.out, fun q => by rw [hD2.out q, hal.out], hD3.out, by rw [hD1.out]; exact hle⟩, hb2.out⟩
end Go.Proofs.YtafecnlaodgmkaaGreatDoor
namespace Go.Proofs.YtafecnlaodgmkaaGreatDoor
set_option linter.unusedVariables false
set_option linter.unusedSimpArgs false
open Go.ChangeShapes Go.WideShapes Go.ChangeAt Go.RowKit
theorem evE_zr {z : Src} {f t : Int} (h : ckU z = 0) : evE z f t = if t < f then 5 else if f < -9999 ∨ 9999 < t then 8 else 0 := by unfold evE; exact if_neg (fun k => k h)
theorem evE_no {z : Src} {f t : Int} (h : ckU z ≠ 0) : evE z f t = if ckU z = 8 ∧ t < f then 5 else ckU z := by unfold evE; exact if_pos h
set_option maxHeartbeats 1600000 in
set_option maxRecDepth 100000 in
theorem xChk_ok_d (nam : List UInt8) (off : Int) (dst : Bool) (abb : List UInt8) (ls : List Lin) (A : Option Addr) (c : Nat) (f t : Int) (xs : List Value) (d : decide (t < f) = true) (HC : Hid (∀ w, (KX w ∧ Rd w A xs) → Calls Tryz.prog 65 #[.agg #[.string (bs nam), .int .i64 off, .bool dst, .string (bs abb), .slice A ls.length c]] w fun e w' => e = .returned (.int .i64 0) ∧ Below w.heap.size w w')) (HF : Hid (∀ w, Calls Tryz.prog 66 #[.int .i64 f] w fun e w' => e = .returned (.bool true) ∧ Below w.heap.size w w')) (HT : Hid (∀ w, Calls Tryz.prog 66 #[.int .i64 t] w fun e w' => e = .returned (.bool true) ∧ Below w.heap.size w w')) (w : World) (hM : Hid (KX w ∧ Rd w A xs)) :
    Calls Tryz.prog 52 #[.agg #[.string (bs nam), .int .i64 off, .bool dst, .string (bs abb), .slice A ls.length c], .int .i64 f, .int .i64 t] w fun e w' => e = .returned (.int .i64 5) ∧ Below w.heap.size w w' := by
  go_enter Tryz.func52, Tryz.ntmps52
  go_wp2_with fail
  
  refine (HC.out _ (by first | exact rdk_keep hM ((Below.refl w.heap.size w).alloc (Nat.le_refl _) _))).mono ?_
  rintro e V1 ⟨rfl, hb1⟩
  have B1 := nby hb1
  have S1 := Lib.hid (row_call hb1 (heap_alloc_new _ _))
  clear hb1
  obtain ⟨S1_0, S1_1, S1_2, S1_3, S1_4⟩ := qw5 S1
  have zS1 := lt_of_heap S1.out
  go_simp
  go_wp2_with fail
  refine (HF.out _).mono ?_
  rintro e V2 ⟨rfl, hb2⟩
  clear S1_0 S1_1 S1_2 S1_3 S1_4 zS1
  have B2 : Hid (Below w.heap.size w V2) := nbx B1 hb2
  replace S1 := rcx hb2 S1
  clear hb2
  obtain ⟨S1_0, S1_1, S1_2, S1_3, S1_4⟩ := qw5 S1
  have zS1 := lt_of_heap S1.out
  go_simp
  go_wp2_with fail
  refine (HT.out _).mono ?_
  rintro e V3 ⟨rfl, hb3⟩
  clear S1_0 S1_1 S1_2 S1_3 S1_4 zS1
  have B3 : Hid (Below w.heap.size w V3) := nbx B2 hb3
  replace S1 := rcx hb3 S1
  clear hb3
  obtain ⟨S1_0, S1_1, S1_2, S1_3, S1_4⟩ := qw5 S1
  have zS1 := lt_of_heap S1.out
  go_simp
  go_wp2
  go_ret
  exact ⟨rfl, B3.out⟩
set_option maxHeartbeats 1600000 in
set_option maxRecDepth 100000 in
theorem xChk_nf_d (nam : List UInt8) (off : Int) (dst : Bool) (abb : List UInt8) (ls : List Lin) (A : Option Addr) (c : Nat) (f t : Int) (xs : List Value) (d : decide (t < f) = true) (HC : Hid (∀ w, (KX w ∧ Rd w A xs) → Calls Tryz.prog 65 #[.agg #[.string (bs nam), .int .i64 off, .bool dst, .string (bs abb), .slice A ls.length c]] w fun e w' => e = .returned (.int .i64 0) ∧ Below w.heap.size w w')) (HF : Hid (∀ w, Calls Tryz.prog 66 #[.int .i64 f] w fun e w' => e = .returned (.bool false) ∧ Below w.heap.size w w')) (w : World) (hM : Hid (KX w ∧ Rd w A xs)) :
    Calls Tryz.prog 52 #[.agg #[.string (bs nam), .int .i64 off, .bool dst, .string (bs abb), .slice A ls.length c], .int .i64 f, .int .i64 t] w fun e w' => e = .returned (.int .i64 5) ∧ Below w.heap.size w w' := by
  go_enter Tryz.func52, Tryz.ntmps52
  go_wp2_with fail
  
  refine (HC.out _ (by first | exact rdk_keep hM ((Below.refl w.heap.size w).alloc (Nat.le_refl _) _))).mono ?_
  rintro e V1 ⟨rfl, hb1⟩
  have B1 := nby hb1
  have S1 := Lib.hid (row_call hb1 (heap_alloc_new _ _))
  clear hb1
  obtain ⟨S1_0, S1_1, S1_2, S1_3, S1_4⟩ := qw5 S1
  have zS1 := lt_of_heap S1.out
  go_simp
  go_wp2_with fail
  refine (HF.out _).mono ?_
  rintro e V2 ⟨rfl, hb2⟩
  clear S1_0 S1_1 S1_2 S1_3 S1_4 zS1
  have B2 : Hid (Below w.heap.size w V2) := nbx B1 hb2
  replace S1 := rcx hb2 S1
  clear hb2
  obtain ⟨S1_0, S1_1, S1_2, S1_3, S1_4⟩ := qw5 S1
  have zS1 := lt_of_heap S1.out
  go_simp
  go_wp2
  go_ret
  exact ⟨rfl, B2.out⟩
set_option maxHeartbeats 1600000 in
set_option maxRecDepth 100000 in
theorem xChk_nt_d (nam : List UInt8) (off : Int) (dst : Bool) (abb : List UInt8) (ls : List Lin) (A : Option Addr) (c : Nat) (f t : Int) (xs : List Value) (d : decide (t < f) = true) (HC : Hid (∀ w, (KX w ∧ Rd w A xs) → Calls Tryz.prog 65 #[.agg #[.string (bs nam), .int .i64 off, .bool dst, .string (bs abb), .slice A ls.length c]] w fun e w' => e = .returned (.int .i64 0) ∧ Below w.heap.size w w')) (HF : Hid (∀ w, Calls Tryz.prog 66 #[.int .i64 f] w fun e w' => e = .returned (.bool true) ∧ Below w.heap.size w w')) (HT : Hid (∀ w, Calls Tryz.prog 66 #[.int .i64 t] w fun e w' => e = .returned (.bool false) ∧ Below w.heap.size w w')) (w : World) (hM : Hid (KX w ∧ Rd w A xs)) :
    Calls Tryz.prog 52 #[.agg #[.string (bs nam), .int .i64 off, .bool dst, .string (bs abb), .slice A ls.length c], .int .i64 f, .int .i64 t] w fun e w' => e = .returned (.int .i64 5) ∧ Below w.heap.size w w' := by
  go_enter Tryz.func52, Tryz.ntmps52
  go_wp2_with fail
  
  refine (HC.out _ (by first | exact rdk_keep hM ((Below.refl w.heap.size w).alloc (Nat.le_refl _) _))).mono ?_
  rintro e V1 ⟨rfl, hb1⟩
  have B1 := nby hb1
  have S1 := Lib.hid (row_call hb1 (heap_alloc_new _ _))
  clear hb1
  obtain ⟨S1_0, S1_1, S1_2, S1_3, S1_4⟩ := qw5 S1
  have zS1 := lt_of_heap S1.out
  go_simp
  go_wp2_with fail
  refine (HF.out _).mono ?_
  rintro e V2 ⟨rfl, hb2⟩
  clear S1_0 S1_1 S1_2 S1_3 S1_4 zS1
  have B2 : Hid (Below w.heap.size w V2) := nbx B1 hb2
  replace S1 := rcx hb2 S1
  clear hb2
  obtain ⟨S1_0, S1_1, S1_2, S1_3, S1_4⟩ := qw5 S1
  have zS1 := lt_of_heap S1.out
  go_simp
  go_wp2_with fail
  refine (HT.out _).mono ?_
  rintro e V3 ⟨rfl, hb3⟩
  clear S1_0 S1_1 S1_2 S1_3 S1_4 zS1
  have B3 : Hid (Below w.heap.size w V3) := nbx B2 hb3
  replace S1 := rcx hb3 S1
  clear hb3
  obtain ⟨S1_0, S1_1, S1_2, S1_3, S1_4⟩ := qw5 S1
  have zS1 := lt_of_heap S1.out
  go_simp
  go_wp2
  go_ret
  exact ⟨rfl, B3.out⟩
set_option maxHeartbeats 1600000 in
set_option maxRecDepth 100000 in
theorem xChk_e8_d (nam : List UInt8) (off : Int) (dst : Bool) (abb : List UInt8) (ls : List Lin) (A : Option Addr) (c : Nat) (f t : Int) (xs : List Value) (d : decide (t < f) = true) (HC : Hid (∀ w, (KX w ∧ Rd w A xs) → Calls Tryz.prog 65 #[.agg #[.string (bs nam), .int .i64 off, .bool dst, .string (bs abb), .slice A ls.length c]] w fun e w' => e = .returned (.int .i64 8) ∧ Below w.heap.size w w')) (w : World) (hM : Hid (KX w ∧ Rd w A xs)) :
    Calls Tryz.prog 52 #[.agg #[.string (bs nam), .int .i64 off, .bool dst, .string (bs abb), .slice A ls.length c], .int .i64 f, .int .i64 t] w fun e w' => e = .returned (.int .i64 5) ∧ Below w.heap.size w w' := by
  go_enter Tryz.func52, Tryz.ntmps52
  go_wp2_with fail
  
  refine (HC.out _ (by first | exact rdk_keep hM ((Below.refl w.heap.size w).alloc (Nat.le_refl _) _))).mono ?_
  rintro e V1 ⟨rfl, hb1⟩
  have B1 := nby hb1
  have S1 := Lib.hid (row_call hb1 (heap_alloc_new _ _))
  clear hb1
  obtain ⟨S1_0, S1_1, S1_2, S1_3, S1_4⟩ := qw5 S1
  have zS1 := lt_of_heap S1.out
  go_simp
  go_wp2
  go_ret
  exact ⟨rfl, B1.out⟩
set_option maxHeartbeats 1600000 in
set_option maxRecDepth 100000 in
theorem xChk_ex_d (nam : List UInt8) (off : Int) (dst : Bool) (abb : List UInt8) (ls : List Lin) (A : Option Addr) (c : Nat) (f t : Int) (xs : List Value) (d : decide (t < f) = true) (C : Int) (q0 : (C == 0) = false) (q8 : (C == 8) = false) (HC : Hid (∀ w, (KX w ∧ Rd w A xs) → Calls Tryz.prog 65 #[.agg #[.string (bs nam), .int .i64 off, .bool dst, .string (bs abb), .slice A ls.length c]] w fun e w' => e = .returned (.int .i64 C) ∧ Below w.heap.size w w')) (w : World) (hM : Hid (KX w ∧ Rd w A xs)) :
    Calls Tryz.prog 52 #[.agg #[.string (bs nam), .int .i64 off, .bool dst, .string (bs abb), .slice A ls.length c], .int .i64 f, .int .i64 t] w fun e w' => e = .returned (.int .i64 C) ∧ Below w.heap.size w w' := by
  go_enter Tryz.func52, Tryz.ntmps52
  go_wp2_with fail
  
  refine (HC.out _ (by first | exact rdk_keep hM ((Below.refl w.heap.size w).alloc (Nat.le_refl _) _))).mono ?_
  rintro e V1 ⟨rfl, hb1⟩
  have B1 := nby hb1
  have S1 := Lib.hid (row_call hb1 (heap_alloc_new _ _))
  clear hb1
  obtain ⟨S1_0, S1_1, S1_2, S1_3, S1_4⟩ := qw5 S1
  have zS1 := lt_of_heap S1.out
  go_simp
  go_wp2
  go_ret
  exact ⟨rfl, B1.out⟩
set_option maxHeartbeats 1600000 in
set_option maxRecDepth 100000 in
theorem xChk_ok_u (nam : List UInt8) (off : Int) (dst : Bool) (abb : List UInt8) (ls : List Lin) (A : Option Addr) (c : Nat) (f t : Int) (xs : List Value) (d : decide (t < f) = false) (HC : Hid (∀ w, (KX w ∧ Rd w A xs) → Calls Tryz.prog 65 #[.agg #[.string (bs nam), .int .i64 off, .bool dst, .string (bs abb), .slice A ls.length c]] w fun e w' => e = .returned (.int .i64 0) ∧ Below w.heap.size w w')) (HF : Hid (∀ w, Calls Tryz.prog 66 #[.int .i64 f] w fun e w' => e = .returned (.bool true) ∧ Below w.heap.size w w')) (HT : Hid (∀ w, Calls Tryz.prog 66 #[.int .i64 t] w fun e w' => e = .returned (.bool true) ∧ Below w.heap.size w w')) (w : World) (hM : Hid (KX w ∧ Rd w A xs)) :
    Calls Tryz.prog 52 #[.agg #[.string (bs nam), .int .i64 off, .bool dst, .string (bs abb), .slice A ls.length c], .int .i64 f, .int .i64 t] w fun e w' => e = .returned (.int .i64 0) ∧ Below w.heap.size w w' := by
  go_enter Tryz.func52, Tryz.ntmps52
  go_wp2_with fail
  
  refine (HC.out _ (by first | exact rdk_keep hM ((Below.refl w.heap.size w).alloc (Nat.le_refl _) _))).mono ?_
  rintro e V1 ⟨rfl, hb1⟩
  have B1 := nby hb1
  have S1 := Lib.hid (row_call hb1 (heap_alloc_new _ _))
  clear hb1
  obtain ⟨S1_0, S1_1, S1_2, S1_3, S1_4⟩ := qw5 S1
  have zS1 := lt_of_heap S1.out
  go_simp
  go_wp2_with fail
  refine (HF.out _).mono ?_
  rintro e V2 ⟨rfl, hb2⟩
  clear S1_0 S1_1 S1_2 S1_3 S1_4 zS1
  have B2 : Hid (Below w.heap.size w V2) := nbx B1 hb2
  replace S1 := rcx hb2 S1
  clear hb2
  obtain ⟨S1_0, S1_1, S1_2, S1_3, S1_4⟩ := qw5 S1
  have zS1 := lt_of_heap S1.out
  go_simp
  go_wp2_with fail
  refine (HT.out _).mono ?_
  rintro e V3 ⟨rfl, hb3⟩
  clear S1_0 S1_1 S1_2 S1_3 S1_4 zS1
  have B3 : Hid (Below w.heap.size w V3) := nbx B2 hb3
  replace S1 := rcx hb3 S1
  clear hb3
  obtain ⟨S1_0, S1_1, S1_2, S1_3, S1_4⟩ := qw5 S1
  have zS1 := lt_of_heap S1.out
  go_simp
  go_wp2
  go_ret
  exact ⟨rfl, B3.out⟩
set_option maxHeartbeats 1600000 in
set_option maxRecDepth 100000 in
theorem xChk_nf_u (nam : List UInt8) (off : Int) (dst : Bool) (abb : List UInt8) (ls : List Lin) (A : Option Addr) (c : Nat) (f t : Int) (xs : List Value) (d : decide (t < f) = false) (HC : Hid (∀ w, (KX w ∧ Rd w A xs) → Calls Tryz.prog 65 #[.agg #[.string (bs nam), .int .i64 off, .bool dst, .string (bs abb), .slice A ls.length c]] w fun e w' => e = .returned (.int .i64 0) ∧ Below w.heap.size w w')) (HF : Hid (∀ w, Calls Tryz.prog 66 #[.int .i64 f] w fun e w' => e = .returned (.bool false) ∧ Below w.heap.size w w')) (w : World) (hM : Hid (KX w ∧ Rd w A xs)) :
    Calls Tryz.prog 52 #[.agg #[.string (bs nam), .int .i64 off, .bool dst, .string (bs abb), .slice A ls.length c], .int .i64 f, .int .i64 t] w fun e w' => e = .returned (.int .i64 8) ∧ Below w.heap.size w w' := by
  go_enter Tryz.func52, Tryz.ntmps52
  go_wp2_with fail
  
  refine (HC.out _ (by first | exact rdk_keep hM ((Below.refl w.heap.size w).alloc (Nat.le_refl _) _))).mono ?_
  rintro e V1 ⟨rfl, hb1⟩
  have B1 := nby hb1
  have S1 := Lib.hid (row_call hb1 (heap_alloc_new _ _))
  clear hb1
  obtain ⟨S1_0, S1_1, S1_2, S1_3, S1_4⟩ := qw5 S1
  have zS1 := lt_of_heap S1.out
  go_simp
  go_wp2_with fail
  refine (HF.out _).mono ?_
  rintro e V2 ⟨rfl, hb2⟩
  clear S1_0 S1_1 S1_2 S1_3 S1_4 zS1
  have B2 : Hid (Below w.heap.size w V2) := nbx B1 hb2
  replace S1 := rcx hb2 S1
  clear hb2
  obtain ⟨S1_0, S1_1, S1_2, S1_3, S1_4⟩ := qw5 S1
  have zS1 := lt_of_heap S1.out
  go_simp
  go_wp2
  go_ret
  exact ⟨rfl, B2.out⟩
set_option maxHeartbeats 1600000 in
set_option maxRecDepth 100000 in
theorem xChk_nt_u (nam : List UInt8) (off : Int) (dst : Bool) (abb : List UInt8) (ls : List Lin) (A : Option Addr) (c : Nat) (f t : Int) (xs : List Value) (d : decide (t < f) = false) (HC : Hid (∀ w, (KX w ∧ Rd w A xs) → Calls Tryz.prog 65 #[.agg #[.string (bs nam), .int .i64 off, .bool dst, .string (bs abb), .slice A ls.length c]] w fun e w' => e = .returned (.int .i64 0) ∧ Below w.heap.size w w')) (HF : Hid (∀ w, Calls Tryz.prog 66 #[.int .i64 f] w fun e w' => e = .returned (.bool true) ∧ Below w.heap.size w w')) (HT : Hid (∀ w, Calls Tryz.prog 66 #[.int .i64 t] w fun e w' => e = .returned (.bool false) ∧ Below w.heap.size w w')) (w : World) (hM : Hid (KX w ∧ Rd w A xs)) :
    Calls Tryz.prog 52 #[.agg #[.string (bs nam), .int .i64 off, .bool dst, .string (bs abb), .slice A ls.length c], .int .i64 f, .int .i64 t] w fun e w' => e = .returned (.int .i64 8) ∧ Below w.heap.size w w' := by
  go_enter Tryz.func52, Tryz.ntmps52
  go_wp2_with fail
  
  refine (HC.out _ (by first | exact rdk_keep hM ((Below.refl w.heap.size w).alloc (Nat.le_refl _) _))).mono ?_
  rintro e V1 ⟨rfl, hb1⟩
  have B1 := nby hb1
  have S1 := Lib.hid (row_call hb1 (heap_alloc_new _ _))
  clear hb1
  obtain ⟨S1_0, S1_1, S1_2, S1_3, S1_4⟩ := qw5 S1
  have zS1 := lt_of_heap S1.out
  go_simp
  go_wp2_with fail
  refine (HF.out _).mono ?_
  rintro e V2 ⟨rfl, hb2⟩
  clear S1_0 S1_1 S1_2 S1_3 S1_4 zS1
  have B2 : Hid (Below w.heap.size w V2) := nbx B1 hb2
  replace S1 := rcx hb2 S1
  clear hb2
  obtain ⟨S1_0, S1_1, S1_2, S1_3, S1_4⟩ := qw5 S1
  have zS1 := lt_of_heap S1.out
  go_simp
  go_wp2_with fail
  refine (HT.out _).mono ?_
  rintro e V3 ⟨rfl, hb3⟩
  clear S1_0 S1_1 S1_2 S1_3 S1_4 zS1
  have B3 : Hid (Below w.heap.size w V3) := nbx B2 hb3
  replace S1 := rcx hb3 S1
  clear hb3
  obtain ⟨S1_0, S1_1, S1_2, S1_3, S1_4⟩ := qw5 S1
  have zS1 := lt_of_heap S1.out
  go_simp
  go_wp2
  go_ret
  exact ⟨rfl, B3.out⟩
set_option maxHeartbeats 1600000 in
set_option maxRecDepth 100000 in
theorem xChk_e8_u (nam : List UInt8) (off : Int) (dst : Bool) (abb : List UInt8) (ls : List Lin) (A : Option Addr) (c : Nat) (f t : Int) (xs : List Value) (d : decide (t < f) = false) (HC : Hid (∀ w, (KX w ∧ Rd w A xs) → Calls Tryz.prog 65 #[.agg #[.string (bs nam), .int .i64 off, .bool dst, .string (bs abb), .slice A ls.length c]] w fun e w' => e = .returned (.int .i64 8) ∧ Below w.heap.size w w')) (w : World) (hM : Hid (KX w ∧ Rd w A xs)) :
    Calls Tryz.prog 52 #[.agg #[.string (bs nam), .int .i64 off, .bool dst, .string (bs abb), .slice A ls.length c], .int .i64 f, .int .i64 t] w fun e w' => e = .returned (.int .i64 8) ∧ Below w.heap.size w w' := by
  go_enter Tryz.func52, Tryz.ntmps52
  go_wp2_with fail
  
  refine (HC.out _ (by first | exact rdk_keep hM ((Below.refl w.heap.size w).alloc (Nat.le_refl _) _))).mono ?_
  rintro e V1 ⟨rfl, hb1⟩
  have B1 := nby hb1
  have S1 := Lib.hid (row_call hb1 (heap_alloc_new _ _))
  clear hb1
  obtain ⟨S1_0, S1_1, S1_2, S1_3, S1_4⟩ := qw5 S1
  have zS1 := lt_of_heap S1.out
  go_simp
  go_wp2
  go_ret
  exact ⟨rfl, B1.out⟩
set_option maxHeartbeats 1600000 in
set_option maxRecDepth 100000 in
theorem xChk_ex_u (nam : List UInt8) (off : Int) (dst : Bool) (abb : List UInt8) (ls : List Lin) (A : Option Addr) (c : Nat) (f t : Int) (xs : List Value) (d : decide (t < f) = false) (C : Int) (q0 : (C == 0) = false) (q8 : (C == 8) = false) (HC : Hid (∀ w, (KX w ∧ Rd w A xs) → Calls Tryz.prog 65 #[.agg #[.string (bs nam), .int .i64 off, .bool dst, .string (bs abb), .slice A ls.length c]] w fun e w' => e = .returned (.int .i64 C) ∧ Below w.heap.size w w')) (w : World) (hM : Hid (KX w ∧ Rd w A xs)) :
    Calls Tryz.prog 52 #[.agg #[.string (bs nam), .int .i64 off, .bool dst, .string (bs abb), .slice A ls.length c], .int .i64 f, .int .i64 t] w fun e w' => e = .returned (.int .i64 C) ∧ Below w.heap.size w w' := by
  go_enter Tryz.func52, Tryz.ntmps52
  go_wp2_with fail
  
  refine (HC.out _ (by first | exact rdk_keep hM ((Below.refl w.heap.size w).alloc (Nat.le_refl _) _))).mono ?_
  rintro e V1 ⟨rfl, hb1⟩
  have B1 := nby hb1
  have S1 := Lib.hid (row_call hb1 (heap_alloc_new _ _))
  clear hb1
  obtain ⟨S1_0, S1_1, S1_2, S1_3, S1_4⟩ := qw5 S1
  have zS1 := lt_of_heap S1.out
  go_simp
  go_wp2
  go_ret
  exact ⟨rfl, B1.out⟩
theorem xCheckYears_any (z : Src) (A : Option Addr) (c : Nat) (f t : Int) (w : World) (hK : KX w) (h : Rd w A (linVs z.lns)) (hz : SB z) :
    Calls Tryz.prog 52 #[srcV z A c, .int .i64 f, .int .i64 t] w fun e w' => e = .returned (.int .i64 (evE z f t)) ∧ Below w.heap.size w w' := by
  have hM : Hid (KX w ∧ Rd w A (linVs z.lns)) := Lib.hid ⟨hK, h⟩
  have HC : Hid (∀ w, (KX w ∧ Rd w A (linVs z.lns)) → Calls Tryz.prog 65 #[srcV z A c] w fun e w' => e = .returned (.int .i64 (ckU z)) ∧ Below w.heap.size w w') := Lib.hid (fun w h => pRuCheck_any z A c w h.1 h.2 hz)
  have HF := Lib.hid (fun w => grow_of (xIsYear_p f w))
  have HT := Lib.hid (fun w => grow_of (xIsYear_p t w))
  unfold srcV at *
  by_cases hC : ckU z = 0
  · rw [hC] at HC
    rw [evE_zr hC]
    by_cases hft : t < f
    · rw [if_pos hft]
      have d := decide_eq_true hft
      by_cases h1 : f < -9999 ∨ 9999 < f
      · rw [wiB_no h1] at HF
        exact xChk_nf_d _ _ _ _ _ A c f t _ d HC HF w hM
      · rw [wiB_yes (by omega) (by omega)] at HF
        by_cases h2 : t < -9999 ∨ 9999 < t
        · rw [wiB_no h2] at HT
          exact xChk_nt_d _ _ _ _ _ A c f t _ d HC HF HT w hM
        · rw [wiB_yes (by omega) (by omega)] at HT
          exact xChk_ok_d _ _ _ _ _ A c f t _ d HC HF HT w hM
    · rw [if_neg hft]
      have d := decide_eq_false hft
      by_cases h1 : f < -9999 ∨ 9999 < f
      · rw [wiB_no h1] at HF
        rw [if_pos (by omega)]
        exact xChk_nf_u _ _ _ _ _ A c f t _ d HC HF w hM
      · rw [wiB_yes (by omega) (by omega)] at HF
        by_cases h2 : t < -9999 ∨ 9999 < t
        · rw [wiB_no h2] at HT
          rw [if_pos (by omega)]
          exact xChk_nt_u _ _ _ _ _ A c f t _ d HC HF HT w hM
        · rw [wiB_yes (by omega) (by omega)] at HT
          rw [if_neg (by omega)]
          exact xChk_ok_u _ _ _ _ _ A c f t _ d HC HF HT w hM
  · rw [evE_no hC]
    by_cases h8 : ckU z = 8
    · rw [h8] at HC
      by_cases hft : t < f
      · rw [if_pos ⟨h8, hft⟩]
        exact xChk_e8_d _ _ _ _ _ A c f t _ (decide_eq_true hft) HC w hM
      · rw [if_neg (fun e => hft e.2), h8]
        exact xChk_e8_u _ _ _ _ _ A c f t _ (decide_eq_false hft) HC w hM
    · rw [if_neg (fun e => h8 e.1)]
      by_cases hft : t < f
      · exact xChk_ex_d _ _ _ _ _ A c f t _ (decide_eq_true hft) _ (beq_false_of_ne hC) (beq_false_of_ne h8) HC w hM
      · exact xChk_ex_u _ _ _ _ _ A c f t _ (decide_eq_false hft) _ (beq_false_of_ne hC) (beq_false_of_ne h8) HC w hM
end Go.Proofs.YtafecnlaodgmkaaGreatDoor
namespace Go.Proofs.YtafecnlaodgmkaaGreatDoor
set_option linter.unusedVariables false
set_option linter.unusedSimpArgs false
open Go.ChangeShapes Go.WideShapes Go.ChangeAt Go.RowKit
structure RowC (w : World) (g : Nat) (E : Array Chg) : Prop where
  lt : g < w.heap.size
  c0 : ∀ i, i < E.size → w.cell? ⟨g, i * 4, none⟩ = some (.int .i64 E[i]!.1)
  c1 : ∀ i, i < E.size → w.cell? ⟨g, i * 4 + 1, none⟩ = some (.int .i64 E[i]!.2.1)
  c2 : ∀ i, i < E.size → w.cell? ⟨g, i * 4 + 2, none⟩ = some (.bool E[i]!.2.2.1)
  c3 : ∀ i, i < E.size → w.cell? ⟨g, i * 4 + 3, none⟩ = some (.string (bs E[i]!.2.2.2))
  fz : ∀ c, w.frozen? ⟨g, c, none⟩ = false
  sh : ∃ cur, w.heap[g]? = some (.cells cur 48 (0, 0)) ∧ cur.size = E.size * 4
theorem RowC.below {w w' : World} {g n : Nat} {E : Array Chg} (h : RowC w g E) (hb : Below n w w') (hn : g < n) : RowC w' g E :=
  ⟨Nat.lt_of_lt_of_le h.lt hb.size, fun i hi => (hb.cell (p := ⟨g, i * 4, none⟩) hn).trans (h.c0 i hi), fun i hi => (hb.cell (p := ⟨g, i * 4 + 1, none⟩) hn).trans (h.c1 i hi), fun i hi => (hb.cell (p := ⟨g, i * 4 + 2, none⟩) hn).trans (h.c2 i hi), fun i hi => (hb.cell (p := ⟨g, i * 4 + 3, none⟩) hn).trans (h.c3 i hi),
    fun c => (hb.frozen (p := ⟨g, c, none⟩) hn).trans (h.fz c), by obtain ⟨cur, h1, h2⟩ := h.sh; exact ⟨cur, (hb.block g hn).trans h1, h2⟩⟩
theorem sc_heap {w : World} {g o : Nat} {v : Value} {cur : Array Value} {e : TypeId} {fz : Nat × Nat} (h : w.heap[g]? = some (.cells cur e fz)) : (w.setCell ⟨g, o, none⟩ v).heap[g]? = some (.cells (cur.setIfInBounds o v) e fz) := by
  rw [Go.Sort.setCell_eq]
  simp [Go.Sort.mapBlock, Go.Sort.onCells, Array.getElem?_modify, h]
def put4 (w : World) (g o : Nat) (x : Chg) : World := (((w.setCell ⟨g, o, none⟩ (.int .i64 x.1)).setCell ⟨g, o + 1, none⟩ (.int .i64 x.2.1)).setCell ⟨g, o + 2, none⟩ (.bool x.2.2.1)).setCell ⟨g, o + 3, none⟩ (.string (bs x.2.2.2))
theorem put4_other {w : World} {g o b : Nat} {x : Chg} (h : b < o ∨ o + 3 < b) : (put4 w g o x).cell? ⟨g, b, none⟩ = w.cell? ⟨g, b, none⟩ := by
  unfold put4
  rw [sc_other (by omega), sc_other (by omega), sc_other (by omega), sc_other (by omega)]
theorem put4_size (w : World) (g o : Nat) (x : Chg) : (put4 w g o x).heap.size = w.heap.size := by unfold put4; simp [World.setCell]
theorem put4_below {B g : Nat} {a w : World} (h : Below B a w) (hg : B ≤ g) (o : Nat) (x : Chg) : Below B a (put4 w g o x) :=
  (((h.setCell (p := ⟨g, o, none⟩) hg _).setCell (p := ⟨g, o + 1, none⟩) hg _).setCell (p := ⟨g, o + 2, none⟩) hg _).setCell (p := ⟨g, o + 3, none⟩) hg _
theorem RowC.set {w : World} {g k : Nat} {E : Array Chg} (h : RowC w g E) (hk : k < E.size) (x : Chg) : RowC (put4 w g (k * 4) x) g (E.setIfInBounds k x) := by
  have hs : (E.setIfInBounds k x).size = E.size := by simp
  have h0 := h.c0 k hk
  have h1 := h.c1 k hk
  have h2 := h.c2 k hk
  have h3 := h.c3 k hk
  have e0 : (put4 w g (k * 4) x).cell? ⟨g, k * 4, none⟩ = some (.int .i64 x.1) := by
    unfold put4; rw [sc_other (by omega), sc_other (by omega), sc_other (by omega), sc_same h0]
  have e1 : (put4 w g (k * 4) x).cell? ⟨g, k * 4 + 1, none⟩ = some (.int .i64 x.2.1) := by
    unfold put4; rw [sc_other (by omega), sc_other (by omega), sc_same ((sc_other (by omega)).trans h1)]
  have e2 : (put4 w g (k * 4) x).cell? ⟨g, k * 4 + 2, none⟩ = some (.bool x.2.2.1) := by
    unfold put4; rw [sc_other (by omega), sc_same ((sc_other (by omega)).trans ((sc_other (by omega)).trans h2))]
  have e3 : (put4 w g (k * 4) x).cell? ⟨g, k * 4 + 3, none⟩ = some (.string (bs x.2.2.2)) := by
    unfold put4; rw [sc_same ((sc_other (by omega)).trans ((sc_other (by omega)).trans ((sc_other (by omega)).trans h3)))]
  refine ⟨by rw [put4_size]; exact h.lt, fun i hi => ?_, fun i hi => ?_, fun i hi => ?_, fun i hi => ?_, fun c => by unfold put4; rw [World.frozen?_setCell, World.frozen?_setCell, World.frozen?_setCell, World.frozen?_setCell]; exact h.fz c, ?_⟩
  · rw [hs] at hi
    by_cases e : i = k
    · subst e
      rw [Go.Sort.getElem!_set_same E i x hi]
      exact e0
    · rw [put4_other (by omega), Go.Sort.getElem!_set_other E k i x e]
      exact h.c0 i hi
  · rw [hs] at hi
    by_cases e : i = k
    · subst e
      rw [Go.Sort.getElem!_set_same E i x hi]
      exact e1
    · rw [put4_other (by omega), Go.Sort.getElem!_set_other E k i x e]
      exact h.c1 i hi
  · rw [hs] at hi
    by_cases e : i = k
    · subst e
      rw [Go.Sort.getElem!_set_same E i x hi]
      exact e2
    · rw [put4_other (by omega), Go.Sort.getElem!_set_other E k i x e]
      exact h.c2 i hi
  · rw [hs] at hi
    by_cases e : i = k
    · subst e
      rw [Go.Sort.getElem!_set_same E i x hi]
      exact e3
    · rw [put4_other (by omega), Go.Sort.getElem!_set_other E k i x e]
      exact h.c3 i hi
  · obtain ⟨cur, h4, h5⟩ := h.sh
    exact ⟨_, sc_heap (sc_heap (sc_heap (sc_heap h4))), by simp [h5]⟩
theorem chgVs_len (T : List Chg) : (chgVs T).length = T.length * 4 := by
  induction T with
  | nil => rfl
  | cons x T ih =>
    unfold chgVs at *
    rw [List.flatMap_cons, List.length_append, ih, List.length_cons]
    show 4 + T.length * 4 = _
    omega
theorem RowC.rd {w : World} {g : Nat} {E : Array Chg} (h : RowC w g E) {L : List Chg} (hs : L.length ≤ E.size) (hl : ∀ i, i < L.length → E[i]! = L[i]!) : Rd w (some ⟨g, 0, none⟩) (chgVs L) := by
  intro j u hu
  refine ⟨g, 0, rfl, h.lt, ?_⟩
  have hj : j < L.length * 4 := by
    have := (List.getElem?_eq_some_iff.1 hu).1
    rwa [chgVs_len] at this
  have hd : j = j / 4 * 4 + j % 4 := by omega
  have hi : j / 4 < L.length := by omega
  have hat := chgVs_at L (j / 4) hi (j % 4) (by omega)
  rw [← hd, hu] at hat
  have h0 := h.c0 (j / 4) (by omega)
  have h1 := h.c1 (j / 4) (by omega)
  have h2 := h.c2 (j / 4) (by omega)
  have h3 := h.c3 (j / 4) (by omega)
  rw [hl _ hi, getElem!_pos L (j / 4) hi] at h0 h1 h2 h3
  have hm : j % 4 = 0 ∨ j % 4 = 1 ∨ j % 4 = 2 ∨ j % 4 = 3 := by omega
  rcases hm with e | e | e | e
  · rw [e] at hat
    obtain rfl : u = .int .i64 L[j / 4].1 := by simpa [chgV] using hat
    rw [show 0 + j = j / 4 * 4 by omega]; exact h0
  · rw [e] at hat
    obtain rfl : u = .int .i64 L[j / 4].2.1 := by simpa [chgV] using hat
    rw [show 0 + j = j / 4 * 4 + 1 by omega]; exact h1
  · rw [e] at hat
    obtain rfl : u = .bool L[j / 4].2.2.1 := by simpa [chgV] using hat
    rw [show 0 + j = j / 4 * 4 + 2 by omega]; exact h2
  · rw [e] at hat
    obtain rfl : u = .string (bs L[j / 4].2.2.2) := by simpa [chgV] using hat
    rw [show 0 + j = j / 4 * 4 + 3 by omega]; exact h3
theorem RowC.exact {w : World} {g : Nat} {E : Array Chg} (h : RowC w g E) : w.heap[g]? = some (.cells (chgVs E.toList).toArray 48 (0, 0)) := by
  obtain ⟨cur, h1, h2⟩ := h.sh
  have hr := RowC.rd h (L := E.toList) (by simp) (fun i hi => by rw [getElem!_pos E i (by simpa using hi), getElem!_pos E.toList i hi]; simp)
  rw [h1]
  congr 2
  apply Array.ext_getElem?
  intro j
  by_cases hj : j < E.size * 4
  · have hl : (chgVs E.toList).length = E.size * 4 := by rw [chgVs_len]; simp
    have h3 := hr.at_ (A := some ⟨g, 0, none⟩) rfl (List.getElem?_eq_getElem (l := chgVs E.toList) (i := j) (by omega))
    rw [Nat.zero_add] at h3
    unfold World.cell? at h3
    rw [h1] at h3
    simp only [Option.isSome_none, Bool.false_eq_true, if_false] at h3
    rw [h3]
    simp
  · have hl : (chgVs E.toList).length = E.size * 4 := by rw [chgVs_len]; simp
    rw [Array.getElem?_eq_none (by omega), Array.getElem?_eq_none (by simp; omega)]
theorem frz_row {V : World} {g : Nat} {cs : Array Value} {t : TypeId} (h : V.heap[g]? = some (.cells cs t (0, 0))) (c : Nat) : V.frozen? ⟨g, c, none⟩ = false := by simp [World.frozen?, h]
theorem infoChg : (Tryz.prog.info? 48).map (fun i => (i.zero, i.size, i.bytes)) = some (some (.agg #[.int .i64 0, .int .i64 0, .bool false, .string ⟨#[]⟩]), 4, 40) := by kernel_rfl
theorem make_chg (n : Nat) (hn : n ≤ 1000000) : ∃ ZC : Array Value, (∀ W : World, (Instr.makeSlice 44 (.int .i64 (n : Int)) (.int .i64 (n : Int))).run Tryz.prog W = .ok (.slice (some ⟨W.heap.size, 0, none⟩) n n) (W.alloc (.cells ZC 48))) ∧
    ∀ W : World, RowC (W.alloc (.cells ZC 48)) W.heap.size (Array.replicate n (0, 0, false, [])) := by
  obtain ⟨i0, hi, hz0, hz1, hz2⟩ := info_parts infoChg
  refine ⟨madeCells #[.int .i64 0, .int .i64 0, .bool false, .string ⟨#[]⟩] (n * 4), fun W => ?_, fun W => ?_⟩
  · have := run_make (P := Tryz.prog) W 44 48 i0 _ Tryz.underlying44 hi hz0 .i64 .i64 (n : Int) (n : Int) (by omega) (Int.le_refl _) (by rw [hz2]; omega) (by omega)
    rw [Int.toNat_natCast, hz1] at this
    exact this
  · have hrow := heap_alloc_new W (.cells (madeCells #[.int .i64 0, .int .i64 0, .bool false, .string ⟨#[]⟩] (n * 4)) 48)
    have hb : bs [] = ⟨#[]⟩ := by unfold bs; rfl
    have key : ∀ q, q < n * 4 → (W.alloc (.cells (madeCells #[.int .i64 0, .int .i64 0, .bool false, .string ⟨#[]⟩] (n * 4)) 48)).cell? ⟨W.heap.size, q, none⟩ = some ((#[.int .i64 0, .int .i64 0, .bool false, .string ⟨#[]⟩] : Array Value)[q % 4]!) := by
      intro q hq
      unfold World.cell?
      rw [hrow]
      simp [madeCells, hq]
    have hd : ∀ i, i < n → (Array.replicate n ((0, 0, false, []) : Chg))[i]! = (0, 0, false, []) := by
      intro i hi
      rw [getElem!_pos _ i (by simpa using hi)]
      simp
    refine ⟨by simp, fun i hi => ?_, fun i hi => ?_, fun i hi => ?_, fun i hi => ?_, fun c => frz_row hrow c, ⟨_, hrow, by simp [madeCells]⟩⟩
    all_goals
      have hi2 : i < n := by simpa using hi
      rw [hd i hi2, key _ (by omega)]
    · rw [show i * 4 % 4 = 0 by omega]; rfl
    · rw [show (i * 4 + 1) % 4 = 1 by omega]; rfl
    · rw [show (i * 4 + 2) % 4 = 2 by omega]; rfl
    · rw [show (i * 4 + 3) % 4 = 3 by omega, hb]; rfl
end Go.Proofs.YtafecnlaodgmkaaGreatDoor
namespace Go.Proofs.YtafecnlaodgmkaaGreatDoor
set_option linter.unusedVariables false
set_option linter.unusedSimpArgs false
open Go.ChangeShapes Go.WideShapes Go.ChangeAt Go.RowKit
theorem evE_ok {z : Src} {f t : Int} (h : evE z f t = 0) : ckU z = 0 ∧ -9999 ≤ f ∧ f ≤ t ∧ t ≤ 9999 := by
  unfold evE at h
  split at h
  · rename_i k
    split at h
    · cases h
    · exact absurd h k
  · rename_i k
    split at h
    · cases h
    · split at h
      · cases h
      · exact ⟨Classical.not_not.1 k, by omega, by omega, by omega⟩
theorem evP_no {YF : Int → Int} {z : Src} {f t : Int} (h : evE z f t ≠ 0) : EvP YF z f t [] := by unfold EvP; rw [if_neg h]
theorem evP_yes {YF : Int → Int} {z : Src} {f t : Int} {L : List Chg} (h : evE z f t = 0) (k : IsEv YF z.lns (staI f) (endI t) L) : EvP YF z f t L := by unfold EvP; rw [if_pos h]; exact k
theorem chgM_at {ls : List Lin} {m : Mom} {q : Nat} (hq : q < ls.length) (h : m.2 = (q : Int)) : chgM ls m = (m.1, triOf ls[q]) := by
  unfold chgM
  rw [h, Int.toNat_natCast, List.getElem?_eq_getElem hq]
  rfl
def RetEvs (P : List Chg → Prop) (w : World) (r : Ending) (w' : World) : Prop :=
  ∃ (L : List Chg) (g : Nat), r = .returned (.tuple #[.slice (some ⟨g, 0, none⟩) L.length L.length, .int .i64 0]) ∧ w'.heap[g]? = some (.cells (chgVs L).toArray 48 (0, 0)) ∧ w.heap.size ≤ g ∧ P L ∧ L.length ≤ 1000000 ∧ Below w.heap.size w w'
theorem rd_exact {w : World} {g : Nat} {L : List Chg} (h : w.heap[g]? = some (.cells (chgVs L).toArray 48 (0, 0))) : Rd w (some ⟨g, 0, none⟩) (chgVs L) := by
  intro j u hu
  refine ⟨g, 0, rfl, (Array.getElem?_eq_some_iff.1 h).1, ?_⟩
  unfold World.cell?
  rw [h]
  simp [hu]
set_option maxHeartbeats 12800000 in
set_option maxRecDepth 100000 in
theorem xEvents_row {YF : Int → Int} (hYF : ∀ S, YIs S (YF S)) (z : Src) (A : Option Addr) (c : Nat) (f t : Int) (hE : evE z f t = 0) (w : World) (hK : KX w) (h : Rd w A (linVs z.lns)) (hz : SB z) :
    Calls Tryz.prog 30 #[srcV z A c, .int .i64 f, .int .i64 t] w (RetEvs (EvP YF z f t) w) := by
  have hM : Hid (KX w ∧ Rd w A (linVs z.lns)) := Lib.hid ⟨hK, h⟩
  have HC : Hid (∀ w, (KX w ∧ Rd w A (linVs z.lns)) → Calls Tryz.prog 52 #[srcV z A c, .int .i64 f, .int .i64 t] w fun e w' => e = .returned (.int .i64 (evE z f t)) ∧ Below w.heap.size w w') := Lib.hid (fun w h => xCheckYears_any z A c f t w h.1 h.2 hz)
  · obtain ⟨hc, f1, hft, t2⟩ := evE_ok hE
    have hOk := ((ckU_zero z).1 hc).2.2.2.2.2
    have hL := ((ckU_zero z).1 hc).1
    have HMW : Hid (∀ w, (KX w ∧ Rd w A (linVs z.lns)) → Calls Tryz.prog 53 #[.slice A z.lns.length c, .int .i64 f, .int .i64 t] w fun e w' => (∃ (D : Array Mom) (A2 : Option Addr) (c2 : Nat), e = .returned (.slice A2 (onceL D D.size).length c2) ∧ Rd w' A2 (momVs (onceL D D.size)) ∧ (∀ m, m ∈ D.toList ↔ m ∈ allM YF (staI f) (staI (t + 1)) z.lns (f - 1) (t - f + 3).toNat) ∧ SrtM D ∧ D.size ≤ 1000000) ∧ Below w.heap.size w w') :=
      Lib.hid (fun w h => xMoments_any hYF z.lns hOk hL A c f t f1 hft t2 w (kx_md h.1) h.2)
    have HEV : Hid (∀ D : Array Mom, (∀ m, m ∈ D.toList ↔ m ∈ allM YF (staI f) (staI (t + 1)) z.lns (f - 1) (t - f + 3).toNat) → SrtM D → EvP YF z f t ((onceL D D.size).map (chgM z.lns)) ∧ ∀ i, i < (onceL D D.size).length → ∃ (q : Nat) (hq : q < z.lns.length), (onceL D D.size)[i]!.2 = (q : Int)) := Lib.hid (fun D hm hS => by
      refine ⟨evP_yes hE (ev_of hYF hOk f1 hft t2 (by omega) hm hS), fun i hi => ?_⟩
      have hmem : (onceL D D.size)[i]! ∈ onceL D D.size := by rw [getElem!_pos _ i hi]; exact List.getElem_mem hi
      obtain ⟨p, hp, he, _⟩ := mem_once.1 hmem
      have h1 := (hm (onceL D D.size)[i]!).1 (by rw [he, getElem!_pos D p hp]; exact Array.getElem_mem_toList hp)
      obtain ⟨j, q, l, hj, hl, _, _, _, hq⟩ := mem_allM.1 h1
      exact ⟨q, (List.getElem?_eq_some_iff.1 hl).1, hq⟩)
    rw [hE] at HC
    generalize EvP YF z f t = P at *
    obtain ⟨nam, off, dst, abb, ls⟩ := z
    unfold srcV at *
    simp only at *
    clear hc hE hOk hK h hz
    go_enter Tryz.func30, Tryz.ntmps30
    go_wp2_with fail
    
    refine (HC.out _ (by first | exact rdk_keep hM ((Below.refl w.heap.size w).alloc (Nat.le_refl _) _))).mono ?_
    rintro e V1 ⟨rfl, hb1⟩
    have B1 := nby hb1
    have S1 := Lib.hid (row_call hb1 (heap_alloc_new _ _))
    clear hb1
    obtain ⟨S1_0, S1_1, S1_2, S1_3, S1_4⟩ := qw5 S1
    have zS1 := lt_of_heap S1.out
    go_simp
    go_wp2_with fail
    refine (HMW.out _ (rdk_keep hM B1.out)).mono ?_
    rintro e w2 ⟨⟨D, A2, c2, rfl, hrd, hmem, hS, hD⟩, hb⟩
    have B2 := Lib.hid (B1.out.trans (hb.mono B1.out.size))
    have S2 := Lib.hid (row_call hb S1.out)
    obtain ⟨hP, hq⟩ := HEV.out D hmem hS
    have hlen : (onceL D D.size).length ≤ 1000000 := by have := onceL_len D D.size; omega
    clear hmem hS hD hb HEV HMW HC
    generalize onceL D D.size = Ms at *
    obtain ⟨ZC, hmk, hZC⟩ := make_chg Ms.length hlen
    replace hP := Lib.hid hP
    replace hq := Lib.hid hq
    replace hrd := Lib.hid hrd
    have hR0 := Lib.hid (hZC w2)
    have hA0 := Lib.hid (((Below.refl w2.heap.size w2).alloc (Nat.le_refl _) (.cells ZC 48)))
    have hws := B2.out.size
    clear hZC
    go_simp
    go_wp2
    go_loopw [30] (fun iv wr => ∃ (k : Nat) (E : Array Chg), k ≤ Ms.length ∧ iv = .int .i64 (k : Int) ∧ Hid (Below w2.heap.size w2 wr) ∧ Hid (RowC wr w2.heap.size E) ∧ E.size = Ms.length ∧ Hid (∀ i, i < k → E[i]! = chgM ls Ms[i]!)) (fun iv _ => Ms.length - (intOf iv).toNat)
    case atStart => exact ⟨0, _, by omega, rfl, hA0, hR0, by simp, Lib.hid (fun i hi => by omega)⟩
    case round =>
      obtain ⟨k, E, hk, rfl, hBl, hRC, hEs, hEv⟩ := hrel
      obtain ⟨V20, rfl⟩ : ∃ V, V = wr := ⟨_, rfl⟩
      clear hA0 hR0 S1
      have hg := hRC.out.lt
      by_cases hlt : k < Ms.length
      · have B20 := Lib.hid (Below.refl V20.heap.size V20)
        have S20 := Lib.hid ((hBl.out.block w.heap.size (by have := lt_of_heap S2.out; omega)).trans S2.out)
        obtain ⟨bm, om, rfl, hbm, hcm⟩ := (hrd.out.below hBl.out (Nat.le_refl _)).mom hlt
        obtain ⟨m0, m1⟩ := hcm k hlt
        obtain ⟨q, hql, hqm⟩ := hq.out k hlt
        rw [getElem!_pos Ms k hlt] at hqm
        have hx := chgM_at hql hqm
        obtain ⟨b, o, rfl, hbl, hc⟩ := ((hM.out.2.below B2.out (Nat.le_refl _)).below hBl.out (Nat.le_refl _)).lin hql
        obtain ⟨-, -, -, -, -, -, -, -, -, -, c10, c11, c12⟩ := hc q hql
        have k0 := hRC.out.c0 k (by omega)
        have k1 := hRC.out.c1 k (by omega)
        have k2 := hRC.out.c2 k (by omega)
        have k3 := hRC.out.c3 k (by omega)
        have z0 := hRC.out.fz (k * 4)
        have z1 := hRC.out.fz (k * 4 + 1)
        have z2 := hRC.out.fz (k * 4 + 2)
        have z3 := hRC.out.fz (k * 4 + 3)
        rw [hqm] at m1
        clear hc hcm
        obtain ⟨ms, hms⟩ : ∃ ms, Ms[k].1 = ms := ⟨_, rfl⟩
        obtain ⟨tl, htl⟩ : ∃ tl, ls[q] = tl := ⟨_, rfl⟩
        rw [hms] at m0 hx
        rw [htl] at c10 c11 c12 hx
        obtain ⟨t0, ht0⟩ : ∃ t0, tl.off = t0 := ⟨_, rfl⟩
        obtain ⟨t1, ht1⟩ : ∃ t1, tl.dst = t1 := ⟨_, rfl⟩
        obtain ⟨t2', ht2⟩ : ∃ t2', tl.abb = t2' := ⟨_, rfl⟩
        rw [ht0] at c10
        rw [ht1] at c11
        rw [ht2] at c12
        have hxx : Hid (chgM ls Ms[k]! = (ms, t0, t1, t2')) := Lib.hid (by rw [getElem!_pos Ms k hlt, hx]; unfold triOf; rw [ht0, ht1, ht2])
        generalize E[k]! = old at k0 k1 k2 k3
        obtain ⟨o0, o1, o2, o3⟩ := old
        simp only at k0 k1 k2 k3
        replace hqm := Lib.hid hqm
        replace hms := Lib.hid hms
        replace htl := Lib.hid htl
        replace ht0 := Lib.hid ht0
        replace ht1 := Lib.hid ht1
        replace ht2 := Lib.hid ht2
        clear hx
        have d3 : (k : Int) < (Ms.length : Int) := by omega
        have d4 : (q : Int) < (ls.length : Int) := by omega
        
        obtain ⟨S20_0, S20_1, S20_2, S20_3, S20_4⟩ := qw5 S20
        have zS20 := lt_of_heap S20.out
        go_wp2_with fail
        have nS20M1 := Lib.hid (lt_of_heap S20.out)
        clear S20_0 S20_1 S20_2 S20_3 S20_4 zS20
        obtain ⟨W0, hW0⟩ : ∃ W0, W0 = (V20.alloc (Obj.cells #[Value.int .i64 ms, Value.int .i64 (q : Int)] 91)) := ⟨_, rfl⟩
        replace S20 := Lib.hid (row_by hW0 (row_alloc S20.out _))
        have M1 := Lib.hid (row_at (k' := V20.heap.size) (by simp) (row_by hW0 (heap_alloc_new _ _)))
        have HB0 := Lib.hid (below_by hW0 ((B20.out).alloc (by have := B20.out.size; simp <;> omega) _))
        have HW0 := Lib.hid hW0
        clear hW0
        obtain ⟨S20_0, S20_1, S20_2, S20_3, S20_4⟩ := qw5 S20
        have zS20 := lt_of_heap S20.out
        obtain ⟨M1_0, M1_1⟩ := qw2 M1
        have zM1 := lt_of_heap M1.out
        try rw [← HW0.out]
        refine wp_region_still_tail 13 (by kernel_rfl) (by kernel_rfl) ?_
        simp only [List.take_succ_cons, List.take_zero, List.drop_succ_cons, List.drop_zero]
        obtain ⟨V21, hV⟩ : ∃ V, V = W0.drew := ⟨_, rfl⟩
        rw [show ({ heap := W0.heap, tape := W0.tape, drawn := W0.drawn + 1, os := W0.os, output := W0.output } : World) = V21 from hV.symm]
        clear S20_0 S20_1 S20_2 S20_3 S20_4 zS20 M1_0 M1_1 zM1
        replace S20 := Lib.hid (row_by hV (show W0.drew.heap[_]? = _ from S20.out))
        replace M1 := Lib.hid (row_by hV (show W0.drew.heap[_]? = _ from M1.out))
        have B21 := Lib.hid (below_by hV HB0.out.drew)
        have HV := Lib.hid hV
        clear hV
        obtain ⟨S20_0, S20_1, S20_2, S20_3, S20_4⟩ := qw5 S20
        have zS20 := lt_of_heap S20.out
        obtain ⟨M1_0, M1_1⟩ := qw2 M1
        have zM1 := lt_of_heap M1.out
        have fc0 : V21.cell? ⟨b, o + q * 13 + 10, none⟩ = some (.int .i64 t0) := (B21.out.cell (p := ⟨b, o + q * 13 + 10, none⟩) (by omega)).trans (by assumption)
        have fc1 : V21.cell? ⟨b, o + q * 13 + 11, none⟩ = some (.bool t1) := (B21.out.cell (p := ⟨b, o + q * 13 + 11, none⟩) (by omega)).trans (by assumption)
        have fc2 : V21.cell? ⟨b, o + q * 13 + 12, none⟩ = some (.string (bs t2')) := (B21.out.cell (p := ⟨b, o + q * 13 + 12, none⟩) (by omega)).trans (by assumption)
        have fc3 : V21.cell? ⟨w2.heap.size, k * 4, none⟩ = some (.int .i64 o0) := (B21.out.cell (p := ⟨w2.heap.size, k * 4, none⟩) (by omega)).trans (by assumption)
        have fd3 : V21.frozen? ⟨w2.heap.size, k * 4, none⟩ = false := (B21.out.frozen (p := ⟨w2.heap.size, k * 4, none⟩) (by omega)).trans (by assumption)
        have fc4 : V21.cell? ⟨w2.heap.size, k * 4 + 1, none⟩ = some (.int .i64 o1) := (B21.out.cell (p := ⟨w2.heap.size, k * 4 + 1, none⟩) (by omega)).trans (by assumption)
        have fd4 : V21.frozen? ⟨w2.heap.size, k * 4 + 1, none⟩ = false := (B21.out.frozen (p := ⟨w2.heap.size, k * 4 + 1, none⟩) (by omega)).trans (by assumption)
        have fc5 : V21.cell? ⟨w2.heap.size, k * 4 + 2, none⟩ = some (.bool o2) := (B21.out.cell (p := ⟨w2.heap.size, k * 4 + 2, none⟩) (by omega)).trans (by assumption)
        have fd5 : V21.frozen? ⟨w2.heap.size, k * 4 + 2, none⟩ = false := (B21.out.frozen (p := ⟨w2.heap.size, k * 4 + 2, none⟩) (by omega)).trans (by assumption)
        have fc6 : V21.cell? ⟨w2.heap.size, k * 4 + 3, none⟩ = some (.string (bs o3)) := (B21.out.cell (p := ⟨w2.heap.size, k * 4 + 3, none⟩) (by omega)).trans (by assumption)
        have fd6 : V21.frozen? ⟨w2.heap.size, k * 4 + 3, none⟩ = false := (B21.out.frozen (p := ⟨w2.heap.size, k * 4 + 3, none⟩) (by omega)).trans (by assumption)
        repeat still_step
        try refine wpStill_nil ?_
        have hset := Lib.hid ((hRC.out.below B21.out hg).set (k := k) (by omega) (ms, t0, t1, t2'))
        have hbs := Lib.hid (put4_below (hBl.out.trans (B21.out.mono (by omega))) (Nat.le_refl _) (k * 4) (ms, t0, t1, t2'))
        go_wp2
        go_roundw
        case rel =>
          refine ⟨k + 1, E.setIfInBounds k (ms, t0, t1, t2'), by omega, by go_num, hbs, hset, by simpa using hEs, Lib.hid (fun i hi => ?_)⟩
          by_cases e : i = k
          · subst e
            rw [Go.Sort.getElem!_set_same E i _ (by omega), hxx.out]
          · rw [Go.Sort.getElem!_set_other E k i _ e]
            exact hEv.out i (by omega)
        case measure => simp [intOf]; omega
      · obtain rfl : k = Ms.length := by omega
        have hkT : ¬ ((Ms.length : Int) < (Ms.length : Int)) := by omega
        have hfin : Hid (V20.heap[w2.heap.size]? = some (.cells (chgVs (Ms.map (chgM ls))).toArray 48 (0, 0)) ∧ Below w.heap.size w V20) := Lib.hid ⟨by
          rw [hRC.out.exact]
          congr 4
          apply List.ext_getElem (by simp [hEs])
          intro i h1 h2
          have hi2 : i < Ms.length := by simpa using h2
          have := hEv.out i hi2
          rw [getElem!_pos E i (by omega), getElem!_pos Ms i hi2] at this
          simp [this], B2.out.trans (hBl.out.mono hws)⟩
        clear hlt
        go_wp2
        go_ret2
        exact ⟨Ms.map (chgM ls), w2.heap.size, by simp, hfin.out.1, hws, hP.out, by simp; omega, hfin.out.2⟩
theorem xEvents_no (z : Src) (A : Option Addr) (c : Nat) (f t : Int) (hE : evE z f t ≠ 0) (w : World) (hK : KX w) (h : Rd w A (linVs z.lns)) (hz : SB z) :
    Calls Tryz.prog 30 #[srcV z A c, .int .i64 f, .int .i64 t] w fun e w' => e = .returned (.tuple #[.slice none 0 0, .int .i64 (evE z f t)]) ∧ Below w.heap.size w w' := by
  have hM : Hid (KX w ∧ Rd w A (linVs z.lns)) := Lib.hid ⟨hK, h⟩
  have HC : Hid (∀ w, (KX w ∧ Rd w A (linVs z.lns)) → Calls Tryz.prog 52 #[srcV z A c, .int .i64 f, .int .i64 t] w fun e w' => e = .returned (.int .i64 (evE z f t)) ∧ Below w.heap.size w w') := Lib.hid (fun w h => xCheckYears_any z A c f t w h.1 h.2 hz)
  have f0 : (evE z f t != 0) = true := bne_iff_ne.2 hE
  generalize evE z f t = C at *
  obtain ⟨nam, off, dst, abb, ls⟩ := z
  unfold srcV at *
  simp only at *
  clear hE hK h hz
  go_enter Tryz.func30, Tryz.ntmps30
  go_wp2_with fail
  
  refine (HC.out _ (by first | exact rdk_keep hM ((Below.refl w.heap.size w).alloc (Nat.le_refl _) _))).mono ?_
  rintro e V1 ⟨rfl, hb1⟩
  have B1 := nby hb1
  have S1 := Lib.hid (row_call hb1 (heap_alloc_new _ _))
  clear hb1
  obtain ⟨S1_0, S1_1, S1_2, S1_3, S1_4⟩ := qw5 S1
  have zS1 := lt_of_heap S1.out
  go_simp
  go_wp2
  go_ret2
  exact ⟨rfl, B1.out⟩
end Go.Proofs.YtafecnlaodgmkaaGreatDoor
