/- Several texts in one: WrdA, WrdB, WrdC, WrdD, WrdE, WrdF, WrdG, WrdM. -/
import Derived.Test.YtacpcjdiljnlaaaGreatDoorY2Sm
import Derived.Test.YtacpcjdiljnlaaaGreatDoorY2Pkg1
import Derived.Test.YtacpcjdiljnlaaaGreatDoorY2Civ1
import Derived.Test.YtacpcjdiljnlaaaGreatDoorY2RowS1
import Derived.Test.YtacpcjdiljnlaaaGreatDoorY2Lex1
import Derived.Laws.IdiomStrings
namespace Go.Proofs.YtacpcjdiljnlaaaGreatDoor
set_option linter.unusedVariables false
set_option linter.unusedSimpArgs false
open Go.ChangeShapes Go.WideShapes Go.ChangeAt Go.RowKit
def dgB (c : UInt8) : Bool := decide (48 ≤ c.toNat) && decide (c.toNat ≤ 57)
theorem dgB_iff (c : UInt8) : dgB c = true ↔ 48 ≤ c.toNat ∧ c.toNat ≤ 57 := by unfold dgB; simp
def dval (t : List UInt8) : Nat := t.foldl (fun a c => 10 * a + (c.toNat - 48)) 0
theorem dval_snoc (t : List UInt8) (c : UInt8) : dval (t ++ [c]) = 10 * dval t + (c.toNat - 48) := by unfold dval; rw [List.foldl_append]; rfl
theorem dval_lt (t : List UInt8) (h : t.all dgB = true) : dval t < 10 ^ t.length := by
  induction t using snocInd with
  | h0 => decide
  | h t c ih =>
    rw [List.all_append, Bool.and_eq_true] at h
    have h1 := ih h.1
    have h2 : dgB c = true := by simpa using h.2
    rw [dgB_iff] at h2
    rw [dval_snoc, List.length_append, List.length_singleton, Nat.pow_succ]
    omega
@[irreducible] def dgV (t : List UInt8) : Int := if t.all dgB = true then (dval t : Int) else -1
theorem dgV_ok {t : List UInt8} (h : t.all dgB = true) : dgV t = (dval t : Int) := by unfold dgV; exact if_pos h
theorem dgV_no {t : List UInt8} (h : ¬ t.all dgB = true) : dgV t = -1 := by unfold dgV; exact if_neg h
theorem pow_le18 {n : Nat} (h : n ≤ 17) : 10 ^ n ≤ 100000000000000000 := Nat.le_trans (Nat.pow_le_pow_right (by decide) h) (by decide)
theorem dgV_bd {t : List UInt8} (h : t.length ≤ 17) : -1 ≤ dgV t ∧ dgV t < 100000000000000000 := by
  by_cases h1 : t.all dgB = true
  · rw [dgV_ok h1]
    have := dval_lt t h1
    have := pow_le18 h
    omega
  · rw [dgV_no h1]; omega
def sub (L : List UInt8) (a n : Nat) : List UInt8 := (L.drop a).take n
theorem sub_len (L : List UInt8) (a n : Nat) (h : a + n ≤ L.length) : (sub L a n).length = n := by unfold sub; simp; omega
theorem sub_succ (L : List UInt8) (a n : Nat) (h : a + n < L.length) : sub L a (n + 1) = sub L a n ++ [L[a + n]] := by
  unfold sub
  rw [List.take_succ_eq_append_getElem (by simp; omega), List.getElem_drop]
theorem sub_all_no (L : List UInt8) (a n m : Nat) (hm : m ≤ n) (h : ¬ (sub L a m).all dgB = true) : ¬ (sub L a n).all dgB = true := by
  intro h2
  apply h
  have e : sub L a n = sub L a m ++ (sub L a n).drop m := by
    unfold sub
    rw [List.drop_take, List.drop_drop]
    conv => lhs; rw [show n = m + (n - m) by omega, List.take_add, List.drop_drop]
  rw [e, List.all_append, Bool.and_eq_true] at h2
  exact h2.1
set_option maxHeartbeats 1600000 in
set_option maxRecDepth 100000 in
theorem rDigits_any (L : List UInt8) (a n : Nat) (h : a + n ≤ L.length) (hL : L.length ≤ 1000000) (hn : n ≤ 17) {A N : Int} (hA : A = (a : Int)) (hN : N = (n : Int)) (w : World) : Calls Tryz.prog 148 #[.string (bs L), .int .i64 A, .int .i64 N] w fun e w' => e = .returned (.int .i64 (dgV (sub L a n))) ∧ w = w' := by
  subst hA
  subst hN
  have hS := bs_size L
  have q1 : decide ((a : Int) < 0) = false := decide_eq_false (by omega)
  have q2 : decide (L.length < n) = false := decide_eq_false (by omega)
  have q3 : decide ((L.length : Int) - (n : Int) < (a : Int)) = false := decide_eq_false (by omega)
  go_enter Tryz.func148, Tryz.ntmps148
  go_wp2
  go_loop [7, 8] (fun v i => ∃ k : Nat, k ≤ n ∧ i = .int .i64 ((a + k : Nat) : Int) ∧ (sub L a k).all dgB = true ∧ v = .int .i64 (dval (sub L a k) : Int)) (fun _ i => a + n - (intOf i).toNat)
  case atStart => exact ⟨0, by omega, rfl, by simp [sub], by simp [sub, dval]⟩
  case round =>
    obtain ⟨k, hk, rfl, hall, rfl⟩ := hrel
    by_cases hlt : k < n
    · have hlk : a + k < L.length := by omega
      obtain ⟨c, hc⟩ : ∃ c : Nat, L[a + k].toNat = c := ⟨_, rfl⟩
      have hb := byte_bs L (a + k) hlk (by rw [hS]; exact hlk) hc
      have hsub := sub_succ L a k hlk
      have hd1 := dval_lt (sub L a k) hall
      have hd2 := sub_len L a k (by omega)
      rw [hd2] at hd1
      have hd3 := pow_le18 (n := k) (by omega)
      have hds := dval_snoc (sub L a k) L[a + k]
      rw [← hsub, hc] at hds
      by_cases hdg : dgB L[a + k] = true
      · have hdg2 := (dgB_iff _).1 hdg
        rw [hc] at hdg2
        obtain ⟨h48, h57⟩ := hdg2
        have hall2 : Hid ((sub L a (k + 1)).all dgB = true) := Lib.hid (by rw [hsub, List.all_append, hall]; simp [hdg])
        replace hc := Lib.hid hc
        replace hsub := Lib.hid hsub
        replace hds := Lib.hid hds
        replace hall := Lib.hid hall
        replace hdg := Lib.hid hdg
        replace hd2 := Lib.hid hd2
        generalize dval (sub L a k) = v at *
        go_wp2
        go_round
        case rel => exact ⟨k + 1, by omega, by go_num, hall2.out, by rw [hds.out]; go_num⟩
        case measure => simp [intOf]; omega
      · have hno : Hid (¬ (sub L a n).all dgB = true) := Lib.hid (sub_all_no L a n (k + 1) (by omega) (by rw [hsub, List.all_append, hall]; simp [hdg]))
        have E := Lib.hid (dgV_no hno.out)
        have hdg2 : c < 48 ∨ 57 < c := by
          rw [dgB_iff, hc] at hdg; omega
        replace hc := Lib.hid hc
        replace hsub := Lib.hid hsub
        replace hds := Lib.hid hds
        replace hall := Lib.hid hall
        replace hdg := Lib.hid hdg
        replace hd2 := Lib.hid hd2
        generalize dval (sub L a k) = v at *
        rcases hdg2 with hdg2 | hdg2
        all_goals
          go_wp2
          go_ret
          exact ⟨by rw [E.out]; try rfl, rfl⟩
    · obtain rfl : k = n := by omega
      have E := Lib.hid (dgV_ok hall)
      replace hall := Lib.hid hall
      go_wp2
      go_ret
      exact ⟨by rw [E.out]; try rfl, rfl⟩
def SomeI (w : World) (e : Ending) (w' : World) : Prop := ∃ v : Int, e = .returned (.int .i64 v) ∧ w = w'
set_option maxHeartbeats 1600000 in
set_option maxRecDepth 100000 in
theorem rDigits_some (L : List UInt8) (hL : L.length ≤ 1000000) (w : World) : Calls Tryz.prog 148 #[.string (bs L), .int .i64 0, .int .i64 (L.length : Int)] w (SomeI w) := by
  have hS := bs_size L
  go_enter Tryz.func148, Tryz.ntmps148
  go_wp2
  go_loop [7, 8] (fun v i => ∃ (k : Nat) (x : Int), k ≤ L.length ∧ i = .int .i64 (k : Int) ∧ v = .int .i64 x) (fun _ i => L.length - (intOf i).toNat)
  case atStart => exact ⟨0, 0, by omega, rfl, rfl⟩
  case round =>
    obtain ⟨k, x, hk, rfl, rfl⟩ := hrel
    by_cases hlt : k < L.length
    · obtain ⟨c, hc⟩ : ∃ c : Nat, L[k].toNat = c := ⟨_, rfl⟩
      have hb := byte_bs L k hlt (by rw [hS]; exact hlt) hc
      replace hc := Lib.hid hc
      by_cases h1 : c < 48
      · go_wp2
        go_ret
        exact ⟨_, rfl, rfl⟩
      · by_cases h2 : 57 < c
        · go_wp2
          go_ret
          exact ⟨_, rfl, rfl⟩
        · go_wp2
          go_round
          case rel => exact ⟨k + 1, _, by omega, by go_num, rfl⟩
          case measure => simp [intOf]; omega
    · obtain rfl : k = L.length := by omega
      go_wp2
      go_ret
      exact ⟨_, rfl, rfl⟩
end Go.Proofs.YtacpcjdiljnlaaaGreatDoor
namespace Go.Proofs.YtacpcjdiljnlaaaGreatDoor
set_option linter.unusedVariables false
set_option linter.unusedSimpArgs false
open Go.ChangeShapes Go.WideShapes Go.ChangeAt Go.RowKit
def negB (L : List UInt8) : Bool := match L with | c :: _ => c.toNat == 45 | [] => false
def bodyN (L : List UInt8) : List UInt8 := if negB L = true then L.drop 1 else L
def zero1 (t : List UInt8) : Bool := match t with | c :: _ => c.toNat == 48 | [] => false
def numF (t : List UInt8) (neg : Bool) : Bool := decide (1 ≤ t.length) && decide (t.length ≤ 6) && t.all dgB && !(zero1 t && (decide (1 < t.length) || neg))
@[irreducible] def numI (L : List UInt8) : Int := if negB L = true then -(dval (bodyN L) : Int) else (dval (bodyN L) : Int)
@[irreducible] def numE (L : List UInt8) (lo hi : Int) : Int := if numF (bodyN L) (negB L) = true then (if numI L < lo ∨ hi < numI L then 8 else 0) else 2
@[irreducible] def numV (L : List UInt8) (lo hi : Int) : Int := if numE L lo hi = 0 then numI L else 0
theorem num_form {L : List UInt8} {lo hi : Int} (h : numF (bodyN L) (negB L) = false) : numE L lo hi = 2 ∧ numV L lo hi = 0 := by
  have e : numE L lo hi = 2 := by unfold numE; exact if_neg (by rw [h]; decide)
  exact ⟨e, by unfold numV; rw [e]; rfl⟩
theorem num_range {L : List UInt8} {lo hi : Int} (h : numF (bodyN L) (negB L) = true) (h2 : numI L < lo ∨ hi < numI L) : numE L lo hi = 8 ∧ numV L lo hi = 0 := by
  have e : numE L lo hi = 8 := by unfold numE; rw [if_pos h]; exact if_pos h2
  exact ⟨e, by unfold numV; rw [e]; rfl⟩
theorem num_ok {L : List UInt8} {lo hi : Int} (h : numF (bodyN L) (negB L) = true) (h2 : ¬ (numI L < lo ∨ hi < numI L)) : numE L lo hi = 0 ∧ numV L lo hi = numI L := by
  have e : numE L lo hi = 0 := by unfold numE; rw [if_pos h]; exact if_neg h2
  exact ⟨e, by unfold numV; rw [e]; rfl⟩
theorem numF_short {t : List UInt8} {neg : Bool} (h : t.length < 1) : numF t neg = false := by unfold numF; rw [decide_eq_false (show ¬ 1 ≤ t.length by omega)]; rfl
theorem numF_long {t : List UInt8} {neg : Bool} (h : 6 < t.length) : numF t neg = false := by unfold numF; rw [decide_eq_false (show ¬ t.length ≤ 6 by omega)]; simp
theorem numF_odd {t : List UInt8} {neg : Bool} (h : ¬ t.all dgB = true) : numF t neg = false := by unfold numF; rw [Bool.eq_false_iff.2 h]; simp
theorem numF_zero {t : List UInt8} {neg : Bool} (h : zero1 t = true) (h2 : 1 < t.length ∨ neg = true) : numF t neg = false := by
  unfold numF
  rw [h]
  rcases h2 with h2 | h2
  · rw [decide_eq_true h2]; simp
  · rw [h2]; simp
theorem numF_yes {t : List UInt8} {neg : Bool} (h1 : 1 ≤ t.length) (h6 : t.length ≤ 6) (h : t.all dgB = true) (hz : zero1 t = false ∨ (¬ 1 < t.length ∧ neg = false)) : numF t neg = true := by
  unfold numF
  rw [decide_eq_true h1, decide_eq_true h6, h]
  rcases hz with hz | ⟨hz, hn⟩
  · rw [hz]; rfl
  · rw [hn, decide_eq_false hz]; simp
theorem neg_at {L : List UInt8} (h : 0 < L.length) : negB L = (L[0].toNat == 45) ∧ zero1 L = (L[0].toNat == 48) := by
  cases L with
  | nil => simp at h
  | cons c r => exact ⟨rfl, rfl⟩
theorem body_neg {L : List UInt8} (h : negB L = true) : bodyN L = L.drop 1 ∧ 0 < L.length := by
  refine ⟨if_pos h, ?_⟩
  cases L with
  | nil => cases h
  | cons c r => simp
theorem body_pos {L : List UInt8} (h : negB L = false) : bodyN L = L := if_neg (by rw [h]; decide)
theorem numI_neg {L : List UInt8} (h : negB L = true) : numI L = -(dval (bodyN L) : Int) := by unfold numI; exact if_pos h
theorem numI_pos {L : List UInt8} (h : negB L = false) : numI L = (dval (bodyN L) : Int) := by unfold numI; exact if_neg (by rw [h]; decide)
theorem sub_whole (t : List UInt8) : sub t 0 t.length = t := by unfold sub; simp
--WALKS
set_option maxHeartbeats 3200000 in
set_option maxRecDepth 100000 in
theorem rNum14_nil (L : List UInt8) (lo hi : Int) (hL : L.length ≤ 100000) (h0 : L.length = 0) (w : World) : Calls Tryz.prog 153 #[.string (bs L), .int .i64 lo, .int .i64 hi] w fun e w' => e = .returned (.tuple #[.int .i64 (numV L lo hi), .int .i64 (numE L lo hi)]) ∧ w = w' := by
  obtain rfl : L = [] := by rw [← List.length_eq_zero_iff]; exact h0
  have E := num_form (L := []) (lo := lo) (hi := hi) (by rfl)
  have H := Lib.hid (rDigits_any [] 0 0 (by simp) (by simp) (by decide) (A := 0) (N := 0) rfl rfl)
  have hd : dgV (sub [] 0 0) = 0 := by rw [dgV_ok (by simp [sub])]; rfl
  rw [hd] at H
  have hS := bs_size []
  replace E := Lib.hid E
  clear hd h0
  go_enter Tryz.func153, Tryz.ntmps153
  go_wp2_with fail
  refine (H.out _).mono ?_
  rintro e w1 ⟨rfl, rfl⟩
  go_wp2
  go_ret2
  exact ⟨by rw [E.out.1, E.out.2]; try rfl, rfl⟩
set_option maxHeartbeats 3200000 in
set_option maxRecDepth 100000 in
theorem rNum14_pos (L : List UInt8) (lo hi : Int) (hL : L.length ≤ 100000) (h0 : 0 < L.length) (hn : negB L = false) (w : World) : Calls Tryz.prog 153 #[.string (bs L), .int .i64 lo, .int .i64 hi] w fun e w' => e = .returned (.tuple #[.int .i64 (numV L lo hi), .int .i64 (numE L lo hi)]) ∧ w = w' := by
  have hS := bs_size L
  obtain ⟨c, hc⟩ : ∃ c : Nat, L[0].toNat = c := ⟨_, rfl⟩
  have hb := byte_bs L 0 h0 (by rw [hS]; exact h0) hc
  have hn1 := (neg_at h0).1
  rw [hn, hc] at hn1
  obtain ⟨T, hT⟩ : ∃ T, bodyN L = T := ⟨_, rfl⟩
  have F0 := fun h => num_form (L := L) (lo := lo) (hi := hi) h
  have F1 := fun h h2 => num_range (L := L) (lo := lo) (hi := hi) h h2
  have F2 := fun h h2 => num_ok (L := L) (lo := lo) (hi := hi) h h2
  have FI := numI_pos hn
  rw [hT, hn] at F0 F1 F2
  rw [hT] at FI
  have hc45 : ¬ c = 45 := by simpa using hn1.symm
  have hc45b : ((c : Int) == 45) = false := by rw [beq_eq_false_iff_ne]; omega
  have hbod := body_pos hn
  rw [hT] at hbod
  subst hbod
  have hST := hS
  have hTL := hL
  replace hT := Lib.hid hT
  replace hc := Lib.hid hc
  replace hn := Lib.hid hn
  replace hn1 := Lib.hid hn1
  have h1 : ¬ T.length < 1 := by omega
  by_cases h6 : 6 < T.length
  · have E := Lib.hid (F0 (numF_long h6))
    have H := Lib.hid (rDigits_some T (by omega))
    replace F0 := Lib.hid F0
    replace F1 := Lib.hid F1
    replace F2 := Lib.hid F2
    replace FI := Lib.hid FI
    go_enter Tryz.func153, Tryz.ntmps153
    go_wp2_with fail
    refine (H.out _).mono ?_
    rintro e w1 ⟨x, rfl, rfl⟩
    go_wp2
    go_ret2
    exact ⟨by rw [E.out.1, E.out.2]; try rfl, rfl⟩
  · have H0 := rDigits_any T 0 T.length (by omega) (by omega) (by omega) (A := 0) (N := (T.length : Int)) rfl rfl
    rw [sub_whole] at H0
    obtain ⟨d, hd⟩ : ∃ d : Nat, (T[0]'(by omega)).toNat = d := ⟨_, rfl⟩
    have hbT := byte_bs T 0 (by omega) (by rw [hST]; omega) hd
    have hz1 := (neg_at (L := T) (by omega)).2
    rw [hd] at hz1
    by_cases hall : T.all dgB = true
    · rw [dgV_ok hall] at H0
      have H := Lib.hid H0
      have hbd := dval_lt T hall
      have hbd2 : dval T < 1000000 := Nat.lt_of_lt_of_le hbd (Nat.pow_le_pow_right (by decide) (by omega) : 10 ^ T.length ≤ 10 ^ 6)
      have hd2 : dgB (T[0]'(by omega)) = true := List.all_eq_true.1 hall _ (List.getElem_mem _)
      have hd3 := (dgB_iff _).1 hd2
      rw [hd] at hd3
      clear hbd H0 hd2
      replace hd := Lib.hid hd
      by_cases h48 : d = 48
      · have hz : zero1 T = true := by rw [hz1, h48]; rfl
        subst h48
        by_cases hl1 : 1 < T.length
        · have E := Lib.hid (F0 (numF_zero hz (Or.inl hl1)))
          replace hz1 := Lib.hid hz1
          replace hz := Lib.hid hz
          replace hall := Lib.hid hall
          generalize dval T = x at *
          replace F0 := Lib.hid F0
          replace F1 := Lib.hid F1
          replace F2 := Lib.hid F2
          replace FI := Lib.hid FI
          go_enter Tryz.func153, Tryz.ntmps153
          go_wp2_with fail
          refine (H.out _).mono ?_
          rintro e w1 ⟨rfl, rfl⟩
          go_wp2
          go_ret2
          exact ⟨by rw [E.out.1, E.out.2]; try rfl, rfl⟩
        · replace hz := Lib.hid hz
          have hF := numF_yes (neg := false) (t := T) (by omega) (by omega) hall (Or.inr ⟨hl1, rfl⟩)
          replace F1 := F1 hF
          replace F2 := F2 hF
          rw [FI] at F1 F2
          replace hz1 := Lib.hid hz1
          replace hall := Lib.hid hall
          replace hF := Lib.hid hF
          replace FI := Lib.hid FI
          replace F0 := Lib.hid F0
          generalize dval T = x at *
          by_cases hlo : (x : Int) < lo
          · have E := Lib.hid (F1 (Or.inl hlo))
            replace F1 := Lib.hid F1
            replace F2 := Lib.hid F2
            go_enter Tryz.func153, Tryz.ntmps153
            go_wp2_with fail
            refine (H.out _).mono ?_
            rintro e w1 ⟨rfl, rfl⟩
            go_wp2
            go_ret2
            exact ⟨by rw [E.out.1, E.out.2]; try rfl, rfl⟩
          · by_cases hhi : hi < (x : Int)
            · have E := Lib.hid (F1 (Or.inr hhi))
              replace F1 := Lib.hid F1
              replace F2 := Lib.hid F2
              go_enter Tryz.func153, Tryz.ntmps153
              go_wp2_with fail
              refine (H.out _).mono ?_
              rintro e w1 ⟨rfl, rfl⟩
              go_wp2
              go_ret2
              exact ⟨by rw [E.out.1, E.out.2]; try rfl, rfl⟩
            · have E := Lib.hid (F2 (fun h => h.elim hlo hhi))
              replace F1 := Lib.hid F1
              replace F2 := Lib.hid F2
              go_enter Tryz.func153, Tryz.ntmps153
              go_wp2_with fail
              refine (H.out _).mono ?_
              rintro e w1 ⟨rfl, rfl⟩
              go_wp2
              go_ret2
              exact ⟨by rw [E.out.1, E.out.2]; try rfl, rfl⟩
      · have hz : zero1 T = false := by rw [hz1, beq_eq_false_iff_ne]; exact h48
        have h48b : ((d : Int) == 48) = false := by rw [beq_eq_false_iff_ne]; omega
        have hF := numF_yes (neg := false) (t := T) (by omega) (by omega) hall (Or.inl hz)
        replace F1 := F1 hF
        replace F2 := F2 hF
        rw [FI] at F1 F2
        replace hz1 := Lib.hid hz1
        replace hz := Lib.hid hz
        replace hall := Lib.hid hall
        replace hF := Lib.hid hF
        replace FI := Lib.hid FI
        replace F0 := Lib.hid F0
        generalize dval T = x at *
        by_cases hlo : (x : Int) < lo
        · have E := Lib.hid (F1 (Or.inl hlo))
          replace F1 := Lib.hid F1
          replace F2 := Lib.hid F2
          go_enter Tryz.func153, Tryz.ntmps153
          go_wp2_with fail
          refine (H.out _).mono ?_
          rintro e w1 ⟨rfl, rfl⟩
          go_wp2
          go_ret2
          exact ⟨by rw [E.out.1, E.out.2]; try rfl, rfl⟩
        · by_cases hhi : hi < (x : Int)
          · have E := Lib.hid (F1 (Or.inr hhi))
            replace F1 := Lib.hid F1
            replace F2 := Lib.hid F2
            go_enter Tryz.func153, Tryz.ntmps153
            go_wp2_with fail
            refine (H.out _).mono ?_
            rintro e w1 ⟨rfl, rfl⟩
            go_wp2
            go_ret2
            exact ⟨by rw [E.out.1, E.out.2]; try rfl, rfl⟩
          · have E := Lib.hid (F2 (fun h => h.elim hlo hhi))
            replace F1 := Lib.hid F1
            replace F2 := Lib.hid F2
            go_enter Tryz.func153, Tryz.ntmps153
            go_wp2_with fail
            refine (H.out _).mono ?_
            rintro e w1 ⟨rfl, rfl⟩
            go_wp2
            go_ret2
            exact ⟨by rw [E.out.1, E.out.2]; try rfl, rfl⟩
    · rw [dgV_no hall] at H0
      have H := Lib.hid H0
      have E := Lib.hid (F0 (numF_odd hall))
      replace hd := Lib.hid hd
      replace hz1 := Lib.hid hz1
      replace hall := Lib.hid hall
      clear H0
      replace F0 := Lib.hid F0
      replace F1 := Lib.hid F1
      replace F2 := Lib.hid F2
      replace FI := Lib.hid FI
      go_enter Tryz.func153, Tryz.ntmps153
      go_wp2_with fail
      refine (H.out _).mono ?_
      rintro e w1 ⟨rfl, rfl⟩
      go_wp2
      go_ret2
      exact ⟨by rw [E.out.1, E.out.2]; try rfl, rfl⟩
set_option maxHeartbeats 3200000 in
set_option maxRecDepth 100000 in
theorem rNum14_neg (L : List UInt8) (lo hi : Int) (hL : L.length ≤ 100000) (h0 : 0 < L.length) (hn : negB L = true) (w : World) : Calls Tryz.prog 153 #[.string (bs L), .int .i64 lo, .int .i64 hi] w fun e w' => e = .returned (.tuple #[.int .i64 (numV L lo hi), .int .i64 (numE L lo hi)]) ∧ w = w' := by
  have hS := bs_size L
  obtain ⟨c, hc⟩ : ∃ c : Nat, L[0].toNat = c := ⟨_, rfl⟩
  have hb := byte_bs L 0 h0 (by rw [hS]; exact h0) hc
  have hn1 := (neg_at h0).1
  rw [hn, hc] at hn1
  obtain ⟨T, hT⟩ : ∃ T, bodyN L = T := ⟨_, rfl⟩
  have F0 := fun h => num_form (L := L) (lo := lo) (hi := hi) h
  have F1 := fun h h2 => num_range (L := L) (lo := lo) (hi := hi) h h2
  have F2 := fun h h2 => num_ok (L := L) (lo := lo) (hi := hi) h h2
  have FI := numI_neg hn
  rw [hT, hn] at F0 F1 F2
  rw [hT] at FI
  have hc45 : c = 45 := by simpa using hn1.symm
  subst hc45
  have hbod := (body_neg hn).1
  rw [hT] at hbod
  have hsl := fun W => slice_from L 1 h0 (A := 1) rfl W
  rw [← hbod] at hsl
  have hTL : T.length ≤ 100000 := by rw [hbod]; simp; omega
  replace hbod := Lib.hid hbod
  have hST := bs_size T
  replace hT := Lib.hid hT
  replace hc := Lib.hid hc
  replace hn := Lib.hid hn
  replace hn1 := Lib.hid hn1
  by_cases h1 : T.length < 1
  · have E := Lib.hid (F0 (numF_short h1))
    have hl0 : T.length = 0 := by omega
    have H := Lib.hid (rDigits_any T 0 0 (by omega) (by omega) (by decide) (A := 0) (N := 0) rfl rfl)
    have hd : dgV (sub T 0 0) = 0 := by rw [dgV_ok (by simp [sub])]; simp [sub, dval]
    rw [hd] at H
    clear hd
    replace F0 := Lib.hid F0
    replace F1 := Lib.hid F1
    replace F2 := Lib.hid F2
    replace FI := Lib.hid FI
    go_enter Tryz.func153, Tryz.ntmps153
    go_wp2_with fail
    refine (H.out _).mono ?_
    rintro e w1 ⟨rfl, rfl⟩
    go_wp2
    go_ret2
    exact ⟨by rw [E.out.1, E.out.2]; try rfl, rfl⟩
  · by_cases h6 : 6 < T.length
    · have E := Lib.hid (F0 (numF_long h6))
      have H := Lib.hid (rDigits_some T (by omega))
      replace F0 := Lib.hid F0
      replace F1 := Lib.hid F1
      replace F2 := Lib.hid F2
      replace FI := Lib.hid FI
      go_enter Tryz.func153, Tryz.ntmps153
      go_wp2_with fail
      refine (H.out _).mono ?_
      rintro e w1 ⟨x, rfl, rfl⟩
      go_wp2
      go_ret2
      exact ⟨by rw [E.out.1, E.out.2]; try rfl, rfl⟩
    · have H0 := rDigits_any T 0 T.length (by omega) (by omega) (by omega) (A := 0) (N := (T.length : Int)) rfl rfl
      rw [sub_whole] at H0
      obtain ⟨d, hd⟩ : ∃ d : Nat, (T[0]'(by omega)).toNat = d := ⟨_, rfl⟩
      have hbT := byte_bs T 0 (by omega) (by rw [hST]; omega) hd
      have hz1 := (neg_at (L := T) (by omega)).2
      rw [hd] at hz1
      by_cases hall : T.all dgB = true
      · rw [dgV_ok hall] at H0
        have H := Lib.hid H0
        have hbd := dval_lt T hall
        have hbd2 : dval T < 1000000 := Nat.lt_of_lt_of_le hbd (Nat.pow_le_pow_right (by decide) (by omega) : 10 ^ T.length ≤ 10 ^ 6)
        have hd2 : dgB (T[0]'(by omega)) = true := List.all_eq_true.1 hall _ (List.getElem_mem _)
        have hd3 := (dgB_iff _).1 hd2
        rw [hd] at hd3
        clear hbd H0 hd2
        replace hd := Lib.hid hd
        by_cases h48 : d = 48
        · have hz : zero1 T = true := by rw [hz1, h48]; rfl
          subst h48
          have E := Lib.hid (F0 (numF_zero hz (Or.inr rfl)))
          replace hz1 := Lib.hid hz1
          replace hz := Lib.hid hz
          replace hall := Lib.hid hall
          generalize dval T = x at *
          replace F0 := Lib.hid F0
          replace F1 := Lib.hid F1
          replace F2 := Lib.hid F2
          replace FI := Lib.hid FI
          by_cases hl1 : 1 < T.length
          · go_enter Tryz.func153, Tryz.ntmps153
            go_wp2_with fail
            refine (H.out _).mono ?_
            rintro e w1 ⟨rfl, rfl⟩
            go_wp2
            go_ret2
            exact ⟨by rw [E.out.1, E.out.2]; try rfl, rfl⟩
          · go_enter Tryz.func153, Tryz.ntmps153
            go_wp2_with fail
            refine (H.out _).mono ?_
            rintro e w1 ⟨rfl, rfl⟩
            go_wp2
            go_ret2
            exact ⟨by rw [E.out.1, E.out.2]; try rfl, rfl⟩
        · have hz : zero1 T = false := by rw [hz1, beq_eq_false_iff_ne]; exact h48
          have h48b : ((d : Int) == 48) = false := by rw [beq_eq_false_iff_ne]; omega
          have hF := numF_yes (neg := true) (t := T) (by omega) (by omega) hall (Or.inl hz)
          replace F1 := F1 hF
          replace F2 := F2 hF
          rw [FI] at F1 F2
          replace hz1 := Lib.hid hz1
          replace hz := Lib.hid hz
          replace hall := Lib.hid hall
          replace hF := Lib.hid hF
          replace FI := Lib.hid FI
          replace F0 := Lib.hid F0
          generalize dval T = x at *
          by_cases hlo : -(x : Int) < lo
          · have E := Lib.hid (F1 (Or.inl hlo))
            replace F1 := Lib.hid F1
            replace F2 := Lib.hid F2
            go_enter Tryz.func153, Tryz.ntmps153
            go_wp2_with fail
            refine (H.out _).mono ?_
            rintro e w1 ⟨rfl, rfl⟩
            go_wp2
            go_ret2
            exact ⟨by rw [E.out.1, E.out.2]; try rfl, rfl⟩
          · by_cases hhi : hi < -(x : Int)
            · have E := Lib.hid (F1 (Or.inr hhi))
              replace F1 := Lib.hid F1
              replace F2 := Lib.hid F2
              go_enter Tryz.func153, Tryz.ntmps153
              go_wp2_with fail
              refine (H.out _).mono ?_
              rintro e w1 ⟨rfl, rfl⟩
              go_wp2
              go_ret2
              exact ⟨by rw [E.out.1, E.out.2]; try rfl, rfl⟩
            · have E := Lib.hid (F2 (fun h => h.elim hlo hhi))
              replace F1 := Lib.hid F1
              replace F2 := Lib.hid F2
              go_enter Tryz.func153, Tryz.ntmps153
              go_wp2_with fail
              refine (H.out _).mono ?_
              rintro e w1 ⟨rfl, rfl⟩
              go_wp2
              go_ret2
              exact ⟨by rw [E.out.1, E.out.2]; try rfl, rfl⟩
      · rw [dgV_no hall] at H0
        have H := Lib.hid H0
        have E := Lib.hid (F0 (numF_odd hall))
        replace hd := Lib.hid hd
        replace hz1 := Lib.hid hz1
        replace hall := Lib.hid hall
        clear H0
        replace F0 := Lib.hid F0
        replace F1 := Lib.hid F1
        replace F2 := Lib.hid F2
        replace FI := Lib.hid FI
        go_enter Tryz.func153, Tryz.ntmps153
        go_wp2_with fail
        refine (H.out _).mono ?_
        rintro e w1 ⟨rfl, rfl⟩
        go_wp2
        go_ret2
        exact ⟨by rw [E.out.1, E.out.2]; try rfl, rfl⟩
theorem rNum14_any (L : List UInt8) (lo hi : Int) (hL : L.length ≤ 100000) (w : World) : Calls Tryz.prog 153 #[.string (bs L), .int .i64 lo, .int .i64 hi] w fun e w' => e = .returned (.tuple #[.int .i64 (numV L lo hi), .int .i64 (numE L lo hi)]) ∧ w = w' := by
  by_cases h0 : 0 < L.length
  · cases hn : negB L
    · exact rNum14_pos L lo hi hL h0 hn w
    · exact rNum14_neg L lo hi hL h0 hn w
  · exact rNum14_nil L lo hi hL (by omega) w
end Go.Proofs.YtacpcjdiljnlaaaGreatDoor
namespace Go.Proofs.YtacpcjdiljnlaaaGreatDoor
set_option linter.unusedVariables false
set_option linter.unusedSimpArgs false
open Go.ChangeShapes Go.WideShapes Go.ChangeAt Go.RowKit
def hmF (t : List UInt8) : Bool := (decide (t.length = 5) || decide (t.length = 8)) && ((t.getD 2 0).toNat == 58) && (decide (t.length = 5) || (t.getD 5 0).toNat == 58)
def hmX (t : List UInt8) : Int := if t.length = 8 then dgV (sub t 6 2) else 0
def hmO (h m x : Int) : Bool := decide (0 ≤ h) && decide (0 ≤ m) && decide (0 ≤ x) && decide (m ≤ 59) && decide (x ≤ 59)
@[irreducible] def hmsV (t : List UInt8) : Int := if (hmF t && hmO (dgV (sub t 0 2)) (dgV (sub t 3 2)) (hmX t)) = true then 3600 * dgV (sub t 0 2) + 60 * dgV (sub t 3 2) + hmX t else -1
theorem hms_no {t : List UInt8} (h : hmF t = false) : hmsV t = -1 := by unfold hmsV; exact if_neg (by rw [h, Bool.false_and]; decide)
theorem hms_odd {t : List UInt8} (h : hmO (dgV (sub t 0 2)) (dgV (sub t 3 2)) (hmX t) = false) : hmsV t = -1 := by unfold hmsV; exact if_neg (by rw [h, Bool.and_false]; decide)
theorem hms_ok {t : List UInt8} (h : hmF t = true) (h2 : hmO (dgV (sub t 0 2)) (dgV (sub t 3 2)) (hmX t) = true) : hmsV t = 3600 * dgV (sub t 0 2) + 60 * dgV (sub t 3 2) + hmX t := by unfold hmsV; exact if_pos (by rw [h, h2]; rfl)
theorem hmO_no {h m x : Int} (hh : h < 0 ∨ m < 0 ∨ x < 0 ∨ 59 < m ∨ 59 < x) : hmO h m x = false := by unfold hmO; simp; omega
theorem hmO_ok {h m x : Int} (h0 : ¬ h < 0) (h1 : ¬ m < 0) (h2 : ¬ x < 0) (h3 : ¬ 59 < m) (h4 : ¬ 59 < x) : hmO h m x = true := by unfold hmO; simp; omega
theorem getD_of {t : List UInt8} {k c : Nat} (h : k < t.length) (hc : t[k].toNat = c) : (t.getD k 0).toNat = c := by simp [List.getD, List.getElem?_eq_getElem h, hc]
theorem hmF_len {t : List UInt8} (h1 : t.length ≠ 5) (h2 : t.length ≠ 8) : hmF t = false := by unfold hmF; simp [h1, h2]
theorem hmF_two {t : List UInt8} {c : Nat} (h : 2 < t.length) (hc : t[2].toNat = c) (h2 : c ≠ 58) : hmF t = false := by
  unfold hmF
  rw [getD_of h hc, beq_eq_false_iff_ne.2 h2]; simp
theorem hmF_five {t : List UInt8} {c : Nat} (h : 5 < t.length) (hc : t[5].toNat = c) (h2 : c ≠ 58) : hmF t = false := by
  unfold hmF
  rw [getD_of h hc, beq_eq_false_iff_ne.2 h2, decide_eq_false (show ¬ t.length = 5 by omega)]; simp
theorem hmF_5 {t : List UInt8} {c : Nat} (h : t.length = 5) (hc : (t[2]'(by omega)).toNat = c) (h2 : c = 58) : hmF t = true := by
  unfold hmF
  rw [getD_of (by omega) hc, h2, decide_eq_true h]; rfl
theorem hmF_8 {t : List UInt8} {c d : Nat} (h : t.length = 8) (hc : (t[2]'(by omega)).toNat = c) (h2 : c = 58) (hd : (t[5]'(by omega)).toNat = d) (h3 : d = 58) : hmF t = true := by
  unfold hmF
  rw [getD_of (by omega) hc, getD_of (by omega) hd, h2, h3, decide_eq_true h]; simp
theorem hmX_5 {t : List UInt8} (h : t.length = 5) : hmX t = 0 := by unfold hmX; exact if_neg (by omega)
theorem hmX_8 {t : List UInt8} (h : t.length = 8) : hmX t = dgV (sub t 6 2) := by unfold hmX; exact if_pos h
theorem two_bd {t : List UInt8} (a : Nat) : -1 ≤ dgV (sub t a 2) ∧ dgV (sub t a 2) < 100 := by
  have hl : (sub t a 2).length ≤ 2 := by unfold sub; simp; omega
  by_cases h1 : (sub t a 2).all dgB = true
  · rw [dgV_ok h1]
    have h2 := dval_lt _ h1
    have h3 : 10 ^ (sub t a 2).length ≤ 10 ^ 2 := Nat.pow_le_pow_right (by decide) hl
    omega
  · rw [dgV_no h1]; omega
theorem hms_bd (t : List UInt8) : -1 ≤ hmsV t ∧ hmsV t < 400000 := by
  cases h : hmF t && hmO (dgV (sub t 0 2)) (dgV (sub t 3 2)) (hmX t)
  · have e : hmsV t = -1 := by unfold hmsV; exact if_neg (by rw [h]; decide)
    omega
  · rw [Bool.and_eq_true] at h
    rw [hms_ok h.1 h.2]
    have h3 := (two_bd (t := t) 0).2
    have h4 := h.2
    unfold hmO at h4
    simp at h4
    omega
set_option maxHeartbeats 3200000 in
set_option maxRecDepth 100000 in
theorem rHms_any (t : List UInt8) (hL : t.length ≤ 100000) (w : World) : Calls Tryz.prog 123 #[.string (bs t)] w fun e w' => e = .returned (.int .i64 (hmsV t)) ∧ w = w' := by
  have hS := bs_size t
  by_cases hlen : t.length = 5
  · obtain ⟨c, hc⟩ : ∃ c : Nat, (t[2]'(by omega)).toNat = c := ⟨_, rfl⟩
    have hb2 := byte_bs t 2 (by omega) (by rw [hS]; omega) hc
    by_cases h58 : c = 58
    · have Dh := rDigits_any t 0 2 (by omega) (by omega) (by decide) (A := 0) (N := 2) rfl rfl
      have Dm := rDigits_any t 3 2 (by omega) (by omega) (by decide) (A := 3) (N := 2) rfl rfl
      have B0 := two_bd (t := t) 0
      have B3 := two_bd (t := t) 3
      have F1 := fun h => hms_odd (t := t) h
      have F2 := fun h => hms_ok (t := t) (hmF_5 hlen hc h58) h
      rw [hmX_5 hlen] at F1 F2
      rw [Int.add_zero] at F2
      subst h58
      generalize dgV (sub t 0 2) = h at *
      generalize dgV (sub t 3 2) = m at *
      replace Dh := Lib.hid Dh
      replace Dm := Lib.hid Dm
      replace hc := Lib.hid hc
      replace hlen := Lib.hid hlen
      by_cases hh : h < 0
      · have E := Lib.hid (F1 (hmO_no (Or.inl hh)))
        replace F1 := Lib.hid F1
        replace F2 := Lib.hid F2
        go_enter Tryz.func123, Tryz.ntmps123
        go_wp2_with fail
        refine (Dh.out _).mono ?_
        rintro e w1 ⟨rfl, rfl⟩
        go_wp2_with fail
        refine (Dm.out _).mono ?_
        rintro e w1 ⟨rfl, rfl⟩
        go_wp2
        go_ret
        exact ⟨by rw [E.out]; try rfl, rfl⟩
      · by_cases hm : m < 0
        · have E := Lib.hid (F1 (hmO_no (Or.inr (Or.inl hm))))
          replace F1 := Lib.hid F1
          replace F2 := Lib.hid F2
          go_enter Tryz.func123, Tryz.ntmps123
          go_wp2_with fail
          refine (Dh.out _).mono ?_
          rintro e w1 ⟨rfl, rfl⟩
          go_wp2_with fail
          refine (Dm.out _).mono ?_
          rintro e w1 ⟨rfl, rfl⟩
          go_wp2
          go_ret
          exact ⟨by rw [E.out]; try rfl, rfl⟩
        · have hx : ¬ (0 : Int) < 0 := by omega
          by_cases hm2 : 59 < m
          · have E := Lib.hid (F1 (hmO_no (Or.inr (Or.inr (Or.inr (Or.inl hm2))))))
            replace F1 := Lib.hid F1
            replace F2 := Lib.hid F2
            go_enter Tryz.func123, Tryz.ntmps123
            go_wp2_with fail
            refine (Dh.out _).mono ?_
            rintro e w1 ⟨rfl, rfl⟩
            go_wp2_with fail
            refine (Dm.out _).mono ?_
            rintro e w1 ⟨rfl, rfl⟩
            go_wp2
            go_ret
            exact ⟨by rw [E.out]; try rfl, rfl⟩
          · have hx2 : ¬ 59 < (0 : Int) := by omega
            have E := Lib.hid (F2 (hmO_ok hh hm hx hm2 hx2))
            replace F1 := Lib.hid F1
            replace F2 := Lib.hid F2
            go_enter Tryz.func123, Tryz.ntmps123
            go_wp2_with fail
            refine (Dh.out _).mono ?_
            rintro e w1 ⟨rfl, rfl⟩
            go_wp2_with fail
            refine (Dm.out _).mono ?_
            rintro e w1 ⟨rfl, rfl⟩
            go_wp2
            go_ret
            exact ⟨by rw [E.out]; try rfl, rfl⟩
    · have E := Lib.hid (hms_no (hmF_two (by omega) hc h58))
      have hne : ((c : Int) == 58) = false := by rw [beq_eq_false_iff_ne]; omega
      have hne2 : ((c : Int) != 58) = true := bne_iff_ne.2 (by omega)
      replace hc := Lib.hid hc
      go_enter Tryz.func123, Tryz.ntmps123
      go_wp2
      go_ret
      exact ⟨by rw [E.out]; try rfl, rfl⟩
  · have hlen5 := hlen
    clear hlen
    by_cases hlen : t.length = 8
    · obtain ⟨c, hc⟩ : ∃ c : Nat, (t[2]'(by omega)).toNat = c := ⟨_, rfl⟩
      have hb2 := byte_bs t 2 (by omega) (by rw [hS]; omega) hc
      by_cases h58 : c = 58
      · have Dh := rDigits_any t 0 2 (by omega) (by omega) (by decide) (A := 0) (N := 2) rfl rfl
        have Dm := rDigits_any t 3 2 (by omega) (by omega) (by decide) (A := 3) (N := 2) rfl rfl
        have Dx := rDigits_any t 6 2 (by omega) (by omega) (by decide) (A := 6) (N := 2) rfl rfl
        have B0 := two_bd (t := t) 0
        have B3 := two_bd (t := t) 3
        have B6 := two_bd (t := t) 6
        have F1 := fun h => hms_odd (t := t) h
        obtain ⟨d, hd⟩ : ∃ d : Nat, (t[5]'(by omega)).toNat = d := ⟨_, rfl⟩
        have hb5 := byte_bs t 5 (by omega) (by rw [hS]; omega) hd
        by_cases h58b : d = 58
        · have F2 := fun h => hms_ok (t := t) (hmF_8 hlen hc h58 hd h58b) h
          rw [hmX_8 hlen] at F1 F2
          subst h58
          subst h58b
          generalize dgV (sub t 0 2) = h at *
          generalize dgV (sub t 3 2) = m at *
          generalize dgV (sub t 6 2) = x at *
          replace Dh := Lib.hid Dh
          replace Dm := Lib.hid Dm
          replace Dx := Lib.hid Dx
          replace hd := Lib.hid hd
          replace hc := Lib.hid hc
          replace hlen := Lib.hid hlen
          by_cases hh : h < 0
          · have E := Lib.hid (F1 (hmO_no (Or.inl hh)))
            replace F1 := Lib.hid F1
            replace F2 := Lib.hid F2
            go_enter Tryz.func123, Tryz.ntmps123
            go_wp2_with fail
            refine (Dh.out _).mono ?_
            rintro e w1 ⟨rfl, rfl⟩
            go_wp2_with fail
            refine (Dm.out _).mono ?_
            rintro e w1 ⟨rfl, rfl⟩
            go_wp2_with fail
            refine (Dx.out _).mono ?_
            rintro e w1 ⟨rfl, rfl⟩
            go_wp2
            go_ret
            exact ⟨by rw [E.out]; try rfl, rfl⟩
          · by_cases hm : m < 0
            · have E := Lib.hid (F1 (hmO_no (Or.inr (Or.inl hm))))
              replace F1 := Lib.hid F1
              replace F2 := Lib.hid F2
              go_enter Tryz.func123, Tryz.ntmps123
              go_wp2_with fail
              refine (Dh.out _).mono ?_
              rintro e w1 ⟨rfl, rfl⟩
              go_wp2_with fail
              refine (Dm.out _).mono ?_
              rintro e w1 ⟨rfl, rfl⟩
              go_wp2_with fail
              refine (Dx.out _).mono ?_
              rintro e w1 ⟨rfl, rfl⟩
              go_wp2
              go_ret
              exact ⟨by rw [E.out]; try rfl, rfl⟩
            · by_cases hx : x < 0
              · have E := Lib.hid (F1 (hmO_no (Or.inr (Or.inr (Or.inl hx)))))
                replace F1 := Lib.hid F1
                replace F2 := Lib.hid F2
                go_enter Tryz.func123, Tryz.ntmps123
                go_wp2_with fail
                refine (Dh.out _).mono ?_
                rintro e w1 ⟨rfl, rfl⟩
                go_wp2_with fail
                refine (Dm.out _).mono ?_
                rintro e w1 ⟨rfl, rfl⟩
                go_wp2_with fail
                refine (Dx.out _).mono ?_
                rintro e w1 ⟨rfl, rfl⟩
                go_wp2
                go_ret
                exact ⟨by rw [E.out]; try rfl, rfl⟩
              · by_cases hm2 : 59 < m
                · have E := Lib.hid (F1 (hmO_no (Or.inr (Or.inr (Or.inr (Or.inl hm2))))))
                  replace F1 := Lib.hid F1
                  replace F2 := Lib.hid F2
                  go_enter Tryz.func123, Tryz.ntmps123
                  go_wp2_with fail
                  refine (Dh.out _).mono ?_
                  rintro e w1 ⟨rfl, rfl⟩
                  go_wp2_with fail
                  refine (Dm.out _).mono ?_
                  rintro e w1 ⟨rfl, rfl⟩
                  go_wp2_with fail
                  refine (Dx.out _).mono ?_
                  rintro e w1 ⟨rfl, rfl⟩
                  go_wp2
                  go_ret
                  exact ⟨by rw [E.out]; try rfl, rfl⟩
                · by_cases hx2 : 59 < x
                  · have E := Lib.hid (F1 (hmO_no (Or.inr (Or.inr (Or.inr (Or.inr hx2))))))
                    replace F1 := Lib.hid F1
                    replace F2 := Lib.hid F2
                    go_enter Tryz.func123, Tryz.ntmps123
                    go_wp2_with fail
                    refine (Dh.out _).mono ?_
                    rintro e w1 ⟨rfl, rfl⟩
                    go_wp2_with fail
                    refine (Dm.out _).mono ?_
                    rintro e w1 ⟨rfl, rfl⟩
                    go_wp2_with fail
                    refine (Dx.out _).mono ?_
                    rintro e w1 ⟨rfl, rfl⟩
                    go_wp2
                    go_ret
                    exact ⟨by rw [E.out]; try rfl, rfl⟩
                  · have E := Lib.hid (F2 (hmO_ok hh hm hx hm2 hx2))
                    replace F1 := Lib.hid F1
                    replace F2 := Lib.hid F2
                    go_enter Tryz.func123, Tryz.ntmps123
                    go_wp2_with fail
                    refine (Dh.out _).mono ?_
                    rintro e w1 ⟨rfl, rfl⟩
                    go_wp2_with fail
                    refine (Dm.out _).mono ?_
                    rintro e w1 ⟨rfl, rfl⟩
                    go_wp2_with fail
                    refine (Dx.out _).mono ?_
                    rintro e w1 ⟨rfl, rfl⟩
                    go_wp2
                    go_ret
                    exact ⟨by rw [E.out]; try rfl, rfl⟩
        · have E := Lib.hid (hms_no (hmF_five (by omega) hd h58b))
          have hne : ((d : Int) == 58) = false := by rw [beq_eq_false_iff_ne]; omega
          have hne2 : ((d : Int) != 58) = true := bne_iff_ne.2 (by omega)
          subst h58
          replace F1 := Lib.hid F1
          generalize dgV (sub t 0 2) = h at *
          generalize dgV (sub t 3 2) = m at *
          generalize dgV (sub t 6 2) = x at *
          replace Dh := Lib.hid Dh
          replace Dm := Lib.hid Dm
          replace Dx := Lib.hid Dx
          replace hd := Lib.hid hd
          replace hc := Lib.hid hc
          replace hlen := Lib.hid hlen
          go_enter Tryz.func123, Tryz.ntmps123
          go_wp2_with fail
          refine (Dh.out _).mono ?_
          rintro e w1 ⟨rfl, rfl⟩
          go_wp2_with fail
          refine (Dm.out _).mono ?_
          rintro e w1 ⟨rfl, rfl⟩
          go_wp2_with fail
          refine (Dx.out _).mono ?_
          rintro e w1 ⟨rfl, rfl⟩
          go_wp2
          go_ret
          exact ⟨by rw [E.out]; try rfl, rfl⟩
      · have E := Lib.hid (hms_no (hmF_two (by omega) hc h58))
        have hne : ((c : Int) == 58) = false := by rw [beq_eq_false_iff_ne]; omega
        have hne2 : ((c : Int) != 58) = true := bne_iff_ne.2 (by omega)
        replace hc := Lib.hid hc
        go_enter Tryz.func123, Tryz.ntmps123
        go_wp2
        go_ret
        exact ⟨by rw [E.out]; try rfl, rfl⟩
    · have E := Lib.hid (hms_no (hmF_len hlen5 hlen))
      have k1 : ((t.length : Int) != 5) = true := bne_iff_ne.2 (by omega)
      have k2 : ((t.length : Int) != 8) = true := bne_iff_ne.2 (by omega)
      go_enter Tryz.func123, Tryz.ntmps123
      go_wp2
      go_ret
      exact ⟨by rw [E.out]; try rfl, rfl⟩
def hd0 (L : List UInt8) : Nat := (L.getD 0 0).toNat
theorem hd0_of {L : List UInt8} {c : Nat} (h : 0 < L.length) (hc : L[0].toNat = c) : hd0 L = c := getD_of h hc
theorem hd0_nil {L : List UInt8} (h : ¬ 0 < L.length) : hd0 L = 0 := by
  have e : L = [] := by rw [← List.length_eq_zero_iff]; omega
  rw [e]; rfl
@[irreducible] def offE (L : List UInt8) : Int := if hd0 L ≠ 43 ∧ hd0 L ≠ 45 then 2 else if hmsV (L.drop 1) < 0 ∨ (hmsV (L.drop 1) = 0 ∧ hd0 L = 45) then 2 else if 64800 < hmsV (L.drop 1) then 8 else 0
@[irreducible] def offV (L : List UInt8) : Int := if offE L = 0 then (if hd0 L = 45 then -hmsV (L.drop 1) else hmsV (L.drop 1)) else 0
theorem off_form {L : List UInt8} (h : hd0 L ≠ 43 ∧ hd0 L ≠ 45) : offE L = 2 ∧ offV L = 0 := by
  have e : offE L = 2 := by unfold offE; exact if_pos h
  exact ⟨e, by unfold offV; rw [e]; rfl⟩
theorem off_odd {L : List UInt8} (h : ¬ (hd0 L ≠ 43 ∧ hd0 L ≠ 45)) (h2 : hmsV (L.drop 1) < 0 ∨ (hmsV (L.drop 1) = 0 ∧ hd0 L = 45)) : offE L = 2 ∧ offV L = 0 := by
  have e : offE L = 2 := by unfold offE; rw [if_neg h]; exact if_pos h2
  exact ⟨e, by unfold offV; rw [e]; rfl⟩
theorem off_range {L : List UInt8} (h : ¬ (hd0 L ≠ 43 ∧ hd0 L ≠ 45)) (h2 : ¬ (hmsV (L.drop 1) < 0 ∨ (hmsV (L.drop 1) = 0 ∧ hd0 L = 45))) (h3 : 64800 < hmsV (L.drop 1)) : offE L = 8 ∧ offV L = 0 := by
  have e : offE L = 8 := by unfold offE; rw [if_neg h, if_neg h2]; exact if_pos h3
  exact ⟨e, by unfold offV; rw [e]; rfl⟩
theorem off_ok {L : List UInt8} (h : ¬ (hd0 L ≠ 43 ∧ hd0 L ≠ 45)) (h2 : ¬ (hmsV (L.drop 1) < 0 ∨ (hmsV (L.drop 1) = 0 ∧ hd0 L = 45))) (h3 : ¬ 64800 < hmsV (L.drop 1)) : offE L = 0 ∧ offV L = (if hd0 L = 45 then -hmsV (L.drop 1) else hmsV (L.drop 1)) := by
  have e : offE L = 0 := by unfold offE; rw [if_neg h, if_neg h2]; exact if_neg h3
  exact ⟨e, by unfold offV; rw [e]; rfl⟩
@[irreducible] def timE (L : List UInt8) : Int := if hmsV L < 0 then 2 else if 86400 < hmsV L then 8 else 0
@[irreducible] def timV (L : List UInt8) : Int := if timE L = 0 then hmsV L else 0
theorem tim_form {L : List UInt8} (h : hmsV L < 0) : timE L = 2 ∧ timV L = 0 := by
  have e : timE L = 2 := by unfold timE; exact if_pos h
  exact ⟨e, by unfold timV; rw [e]; rfl⟩
theorem tim_range {L : List UInt8} (h : ¬ hmsV L < 0) (h2 : 86400 < hmsV L) : timE L = 8 ∧ timV L = 0 := by
  have e : timE L = 8 := by unfold timE; rw [if_neg h]; exact if_pos h2
  exact ⟨e, by unfold timV; rw [e]; rfl⟩
theorem tim_ok {L : List UInt8} (h : ¬ hmsV L < 0) (h2 : ¬ 86400 < hmsV L) : timE L = 0 ∧ timV L = hmsV L := by
  have e : timE L = 0 := by unfold timE; rw [if_neg h]; exact if_neg h2
  exact ⟨e, by unfold timV; rw [e]; rfl⟩
set_option maxHeartbeats 3200000 in
set_option maxRecDepth 100000 in
theorem rTime_any (L : List UInt8) (hL : L.length ≤ 100000) (w : World) : Calls Tryz.prog 129 #[.string (bs L)] w fun e w' => e = .returned (.tuple #[.int .i64 (timV L), .int .i64 (timE L)]) ∧ w = w' := by
  have H := Lib.hid (rHms_any L hL)
  have F0 := tim_form (L := L)
  have F1 := tim_range (L := L)
  have F2 := tim_ok (L := L)
  have hbd := hms_bd L
  generalize hmsV L = n at *
  by_cases h1 : n < 0
  · have E := Lib.hid (F0 h1)
    clear F0 F1 F2
    go_enter Tryz.func129, Tryz.ntmps129
    go_wp2_with fail
    refine (H.out _).mono ?_
    rintro e w1 ⟨rfl, rfl⟩
    go_wp2
    go_ret2
    exact ⟨by rw [E.out.1, E.out.2]; try rfl, rfl⟩
  · by_cases h2 : 86400 < n
    · have E := Lib.hid (F1 h1 h2)
      clear F0 F1 F2
      go_enter Tryz.func129, Tryz.ntmps129
      go_wp2_with fail
      refine (H.out _).mono ?_
      rintro e w1 ⟨rfl, rfl⟩
      go_wp2
      go_ret2
      exact ⟨by rw [E.out.1, E.out.2]; try rfl, rfl⟩
    · have E := Lib.hid (F2 h1 h2)
      clear F0 F1 F2
      go_enter Tryz.func129, Tryz.ntmps129
      go_wp2_with fail
      refine (H.out _).mono ?_
      rintro e w1 ⟨rfl, rfl⟩
      go_wp2
      go_ret2
      exact ⟨by rw [E.out.1, E.out.2]; try rfl, rfl⟩
set_option maxHeartbeats 3200000 in
set_option maxRecDepth 100000 in
theorem rOffset_any (L : List UInt8) (hL : L.length ≤ 100000) (w : World) : Calls Tryz.prog 90 #[.string (bs L)] w fun e w' => e = .returned (.tuple #[.int .i64 (offV L), .int .i64 (offE L)]) ∧ w = w' := by
  have hS := bs_size L
  have F0 := off_form (L := L)
  by_cases h0 : 0 < L.length
  · obtain ⟨c, hc⟩ : ∃ c : Nat, L[0].toNat = c := ⟨_, rfl⟩
    have hb := byte_bs L 0 h0 (by rw [hS]; exact h0) hc
    have hh := hd0_of h0 hc
    by_cases hsg : c = 43
    · have F1 := off_odd (L := L)
      have F2 := off_range (L := L)
      have F3 := off_ok (L := L)
      rw [hh] at F0 F1 F2 F3
      subst hsg
      replace F1 := F1 (by decide)
      replace F2 := F2 (by decide)
      replace F3 := F3 (by decide)
      rw [if_neg (by decide)] at F3
      have hsl := fun W => slice_from L 1 h0 (A := 1) rfl W
      have H := Lib.hid (rHms_any (L.drop 1) (by simp; omega))
      have hbd := hms_bd (L.drop 1)
      generalize L.drop 1 = T at *
      generalize hmsV T = n at *
      clear F0
      replace hh := Lib.hid hh
      replace hc := Lib.hid hc
      by_cases h1 : n < 0
      · have E := Lib.hid (F1 (Or.inl h1))
        clear F1 F2 F3
        go_enter Tryz.func90, Tryz.ntmps90
        go_wp2_with fail
        refine (H.out _).mono ?_
        rintro e w1 ⟨rfl, rfl⟩
        go_wp2
        go_ret2
        exact ⟨by rw [E.out.1, E.out.2]; try rfl, rfl⟩
      · by_cases hz : n = 0
        · subst hz
          have E := Lib.hid (F3 (fun h => h.elim h1 (fun h => absurd h.2 (by decide))) (by decide))
          clear F1 F2 F3
          go_enter Tryz.func90, Tryz.ntmps90
          go_wp2_with fail
          refine (H.out _).mono ?_
          rintro e w1 ⟨rfl, rfl⟩
          go_wp2
          go_ret2
          exact ⟨by rw [E.out.1, E.out.2]; try rfl, rfl⟩
        · by_cases h2 : 64800 < n
          · have E := Lib.hid (F2 (fun h => h.elim h1 (fun h => absurd h.2 (by decide))) h2)
            clear F1 F2 F3
            have hzb : decide (n = 0) = false := decide_eq_false hz
            have hzc : (n == 0) = false := beq_eq_false_iff_ne.2 hz
            replace hz := Lib.hid hz
            go_enter Tryz.func90, Tryz.ntmps90
            go_wp2_with fail
            refine (H.out _).mono ?_
            rintro e w1 ⟨rfl, rfl⟩
            go_wp2
            go_ret2
            exact ⟨by rw [E.out.1, E.out.2]; try rfl, rfl⟩
          · have E := Lib.hid (F3 (fun h => h.elim h1 (fun h => absurd h.2 (by decide))) h2)
            clear F1 F2 F3
            have hzb : decide (n = 0) = false := decide_eq_false hz
            have hzc : (n == 0) = false := beq_eq_false_iff_ne.2 hz
            replace hz := Lib.hid hz
            go_enter Tryz.func90, Tryz.ntmps90
            go_wp2_with fail
            refine (H.out _).mono ?_
            rintro e w1 ⟨rfl, rfl⟩
            go_wp2
            go_ret2
            exact ⟨by rw [E.out.1, E.out.2]; try rfl, rfl⟩
    · have hsg0 := hsg
      clear hsg
      by_cases hsg : c = 45
      · have F1 := off_odd (L := L)
        have F2 := off_range (L := L)
        have F3 := off_ok (L := L)
        rw [hh] at F0 F1 F2 F3
        subst hsg
        replace F1 := F1 (by decide)
        replace F2 := F2 (by decide)
        replace F3 := F3 (by decide)
        rw [if_pos (by decide)] at F3
        have hsl := fun W => slice_from L 1 h0 (A := 1) rfl W
        have H := Lib.hid (rHms_any (L.drop 1) (by simp; omega))
        have hbd := hms_bd (L.drop 1)
        generalize L.drop 1 = T at *
        generalize hmsV T = n at *
        clear F0
        replace hh := Lib.hid hh
        replace hc := Lib.hid hc
        by_cases h1 : n < 0
        · have E := Lib.hid (F1 (Or.inl h1))
          clear F1 F2 F3
          go_enter Tryz.func90, Tryz.ntmps90
          go_wp2_with fail
          refine (H.out _).mono ?_
          rintro e w1 ⟨rfl, rfl⟩
          go_wp2
          go_ret2
          exact ⟨by rw [E.out.1, E.out.2]; try rfl, rfl⟩
        · by_cases hz : n = 0
          · have E := Lib.hid (F1 (Or.inr ⟨hz, rfl⟩))
            subst hz
            clear F1 F2 F3
            go_enter Tryz.func90, Tryz.ntmps90
            go_wp2_with fail
            refine (H.out _).mono ?_
            rintro e w1 ⟨rfl, rfl⟩
            go_wp2
            go_ret2
            exact ⟨by rw [E.out.1, E.out.2]; try rfl, rfl⟩
          · by_cases h2 : 64800 < n
            · have E := Lib.hid (F2 (fun h => h.elim h1 (fun h => hz h.1)) h2)
              clear F1 F2 F3
              have hzb : decide (n = 0) = false := decide_eq_false hz
              have hzc : (n == 0) = false := beq_eq_false_iff_ne.2 hz
              replace hz := Lib.hid hz
              go_enter Tryz.func90, Tryz.ntmps90
              go_wp2_with fail
              refine (H.out _).mono ?_
              rintro e w1 ⟨rfl, rfl⟩
              go_wp2
              go_ret2
              exact ⟨by rw [E.out.1, E.out.2]; try rfl, rfl⟩
            · have E := Lib.hid (F3 (fun h => h.elim h1 (fun h => hz h.1)) h2)
              clear F1 F2 F3
              have hzb : decide (n = 0) = false := decide_eq_false hz
              have hzc : (n == 0) = false := beq_eq_false_iff_ne.2 hz
              replace hz := Lib.hid hz
              go_enter Tryz.func90, Tryz.ntmps90
              go_wp2_with fail
              refine (H.out _).mono ?_
              rintro e w1 ⟨rfl, rfl⟩
              go_wp2
              go_ret2
              exact ⟨by rw [E.out.1, E.out.2]; try rfl, rfl⟩
      · have E := Lib.hid (F0 (by rw [hh]; exact ⟨hsg0, hsg⟩))
        have k1 : ((c : Int) != 43) = true := bne_iff_ne.2 (by omega)
        have k2 : ((c : Int) != 45) = true := bne_iff_ne.2 (by omega)
        clear F0
        replace hh := Lib.hid hh
        replace hc := Lib.hid hc
        go_enter Tryz.func90, Tryz.ntmps90
        go_wp2
        go_ret2
        exact ⟨by rw [E.out.1, E.out.2]; try rfl, rfl⟩
  · have E := Lib.hid (F0 (by rw [hd0_nil h0]; decide))
    clear F0
    obtain rfl : L = [] := by rw [← List.length_eq_zero_iff]; omega
    go_enter Tryz.func90, Tryz.ntmps90
    go_wp2
    go_ret2
    exact ⟨by rw [E.out.1, E.out.2]; try rfl, rfl⟩
end Go.Proofs.YtacpcjdiljnlaaaGreatDoor
namespace Go.Proofs.YtacpcjdiljnlaaaGreatDoor
set_option linter.unusedVariables false
set_option linter.unusedSimpArgs false
open Go.ChangeShapes Go.WideShapes Go.ChangeAt Go.RowKit
set_option maxHeartbeats 1600000 in
set_option maxRecDepth 100000 in
theorem rYear_any (L : List UInt8) (hL : L.length ≤ 100000) (w : World) : Calls Tryz.prog 150 #[.string (bs L)] w fun e w' => e = .returned (.tuple #[.int .i64 (numV L (-9999) 9999), .int .i64 (numE L (-9999) 9999)]) ∧ w = w' := by
  have H := Lib.hid (rNum14_any L (-9999) 9999 hL)
  go_enter Tryz.func150, Tryz.ntmps150
  go_wp2_with fail
  refine (H.out _).mono ?_
  rintro e w1 ⟨rfl, rfl⟩
  go_wp2
  go_ret2
  exact ⟨by first | rfl | simp, rfl⟩
@[irreducible] def letN (c : Nat) : Bool := (decide (97 ≤ c) && decide (c ≤ 122)) || (decide (65 ≤ c) && decide (c ≤ 90))
theorem let_cases (c : Nat) : (c < 65 ∧ letN c = false) ∨ ((65 ≤ c ∧ c ≤ 90) ∧ letN c = true) ∨ ((90 < c ∧ c < 97) ∧ letN c = false) ∨ ((97 ≤ c ∧ c ≤ 122) ∧ letN c = true) ∨ (122 < c ∧ letN c = false) := by
  unfold letN
  by_cases h1 : c < 65
  · left; refine ⟨h1, ?_⟩; simp; omega
  · by_cases h2 : c ≤ 90
    · right; left; refine ⟨by omega, ?_⟩; simp; omega
    · by_cases h3 : c < 97
      · right; right; left; refine ⟨by omega, ?_⟩; simp; omega
      · by_cases h4 : c ≤ 122
        · right; right; right; left; refine ⟨by omega, ?_⟩; simp; omega
        · right; right; right; right; refine ⟨by omega, ?_⟩; simp; omega
set_option maxHeartbeats 1600000 in
theorem rLetter_p (c : Nat) (w : World) : Calls Tryz.prog 54 #[.int .u8 (c : Int)] w fun e w' => e = .returned (.bool (letN c)) ∧ w = w' := by
  rcases let_cases c with ⟨h, E⟩ | ⟨⟨h, h2⟩, E⟩ | ⟨⟨h, h2⟩, E⟩ | ⟨⟨h, h2⟩, E⟩ | ⟨h, E⟩
  all_goals
    replace E := Lib.hid E
    go_enter Tryz.func54, Tryz.ntmps54
    go_wp2
    go_ret
    exact ⟨by rw [E.out]; first | rfl | (simp; omega), rfl⟩
def letAll (L : List UInt8) : Bool := L.all (fun c => letN c.toNat)
@[irreducible] def abbE (L : List UInt8) : Int := if letAll L = true ∧ 1 ≤ L.length ∧ L.length ≤ 6 then 0 else 2
theorem all_take {α : Type} {p : α → Bool} {L : List α} {k : Nat} (hk : k < L.length) (h : (L.take k).all p = true) (hc : p L[k] = true) : (L.take (k + 1)).all p = true := by
  rw [List.take_succ_eq_append_getElem hk, List.all_append, h]; simp [hc]
theorem all_stop {α : Type} {p : α → Bool} {L : List α} {k : Nat} (hk : k < L.length) (hc : p L[k] = false) : L.all p = false := by
  rw [List.all_eq_false]
  exact ⟨L[k], List.getElem_mem hk, by rw [hc]; decide⟩
set_option maxHeartbeats 1600000 in
set_option maxRecDepth 100000 in
theorem rAbbr_all (L : List UInt8) (hL : L.length ≤ 9223372036854775807) (w : World) : Calls Tryz.prog 29 #[.string (bs L)] w fun e w' => e = .returned (.int .i64 (abbE L)) ∧ w = w' := by
  have hS := bs_size L
  have H := Lib.hid rLetter_p
  go_enter Tryz.func29, Tryz.ntmps29
  go_wp2
  go_loop [3] (fun i => ∃ k : Nat, k ≤ L.length ∧ i = .int .i64 (k : Int) ∧ letAll (L.take k) = true) (fun i => L.length - (intOf i).toNat)
  case atStart => exact ⟨0, by omega, rfl, rfl⟩
  case round =>
    obtain ⟨k, hk, rfl, hall⟩ := hrel
    by_cases hlt : k < L.length
    · obtain ⟨c, hc⟩ : ∃ c : Nat, L[k].toNat = c := ⟨_, rfl⟩
      have hb := byte_bs L k hlt (by rw [hS]; exact hlt) hc
      have H2 := H.out c
      cases hl : letN c
      · have E : Hid (abbE L = 2) := Lib.hid (by
          have e : letAll L = false := all_stop hlt (by rw [hc]; exact hl)
          unfold abbE; rw [e]; rfl)
        rw [hl] at H2
        replace H2 := Lib.hid H2
        replace hl := Lib.hid hl
        replace hc := Lib.hid hc
        replace hall := Lib.hid hall
        go_wp2_with fail
        refine (H2.out _).mono ?_
        rintro e w1 ⟨rfl, rfl⟩
        go_wp2
        go_ret
        exact ⟨by rw [E.out]; try rfl, rfl⟩
      · have E : Hid (letAll (L.take (k + 1)) = true) := Lib.hid (all_take hlt hall (by rw [hc]; exact hl))
        rw [hl] at H2
        replace H2 := Lib.hid H2
        replace hl := Lib.hid hl
        replace hc := Lib.hid hc
        replace hall := Lib.hid hall
        go_wp2_with fail
        refine (H2.out _).mono ?_
        rintro e w1 ⟨rfl, rfl⟩
        go_wp2
        go_round
        case rel => exact ⟨k + 1, by omega, by go_num, E.out⟩
        case measure => simp [intOf]; omega
    · obtain rfl : k = L.length := by omega
      rw [List.take_length] at hall
      clear H
      by_cases h1 : L.length < 1
      · have E : Hid (abbE L = 2) := Lib.hid (by unfold abbE; exact if_neg (by omega))
        replace hall := Lib.hid hall
        go_wp2
        go_ret
        exact ⟨by rw [E.out]; try rfl, rfl⟩
      · by_cases h6 : 6 < L.length
        · have E : Hid (abbE L = 2) := Lib.hid (by unfold abbE; exact if_neg (by omega))
          replace hall := Lib.hid hall
          go_wp2
          go_ret
          exact ⟨by rw [E.out]; try rfl, rfl⟩
        · have E : Hid (abbE L = 0) := Lib.hid (by unfold abbE; exact if_pos ⟨hall, by omega, by omega⟩)
          replace hall := Lib.hid hall
          go_wp2
          go_ret
          exact ⟨by rw [E.out]; try rfl, rfl⟩
theorem rAbbr_any (L : List UInt8) (hL : L.length ≤ 100000) (w : World) : Calls Tryz.prog 29 #[.string (bs L)] w fun e w' => e = .returned (.int .i64 (abbE L)) ∧ w = w' := rAbbr_all L (by omega) w
@[irreducible] def namN (c : Nat) : Bool := letN c || (decide (48 ≤ c) && decide (c ≤ 57)) || c == 95 || c == 45 || c == 47
def namAll (L : List UInt8) : Bool := L.all (fun c => namN c.toNat)
@[irreducible] def namE (L : List UInt8) : Int := if 1 ≤ L.length ∧ L.length ≤ 32 ∧ namAll L = true then 0 else 2
theorem nam_cases (c : Nat) : (letN c = true ∧ namN c = true) ∨ (letN c = false ∧ ((c = 95 ∨ c = 45 ∨ c = 47 ∨ (48 ≤ c ∧ c ≤ 57)) ∧ namN c = true)) ∨ (letN c = false ∧ ((c < 48 ∧ c ≠ 45 ∧ c ≠ 47) ∨ (57 < c ∧ c ≠ 95)) ∧ namN c = false) := by
  unfold namN
  cases hl : letN c
  · by_cases h : (c = 95 ∨ c = 45 ∨ c = 47 ∨ (48 ≤ c ∧ c ≤ 57))
    · right; left; refine ⟨rfl, h, ?_⟩; simp; omega
    · right; right; refine ⟨rfl, by omega, ?_⟩; simp; omega
  · left; exact ⟨rfl, rfl⟩
set_option maxHeartbeats 3200000 in
set_option maxRecDepth 100000 in
theorem rName_all (L : List UInt8) (hL : L.length ≤ 9223372036854775807) (w : World) : Calls Tryz.prog 42 #[.string (bs L)] w fun e w' => e = .returned (.int .i64 (namE L)) ∧ w = w' := by
  have hS := bs_size L
  by_cases h1 : L.length < 1
  · have E : Hid (namE L = 2) := Lib.hid (by unfold namE; exact if_neg (by omega))
    go_enter Tryz.func42, Tryz.ntmps42
    go_wp2
    go_ret
    exact ⟨by rw [E.out]; try rfl, rfl⟩
  · by_cases h32 : 32 < L.length
    · have E : Hid (namE L = 2) := Lib.hid (by unfold namE; exact if_neg (by omega))
      go_enter Tryz.func42, Tryz.ntmps42
      go_wp2
      go_ret
      exact ⟨by rw [E.out]; try rfl, rfl⟩
    · have H := Lib.hid rLetter_p
      have q1 : decide ((L.length : Int) < 1) = false := decide_eq_false (by omega)
      have q2 : decide (32 < (L.length : Int)) = false := decide_eq_false (by omega)
      go_enter Tryz.func42, Tryz.ntmps42
      go_wp2
      go_loop [3] (fun i => ∃ k : Nat, k ≤ L.length ∧ i = .int .i64 (k : Int) ∧ namAll (L.take k) = true) (fun i => L.length - (intOf i).toNat)
      case atStart => exact ⟨0, by omega, rfl, rfl⟩
      case round =>
        obtain ⟨k, hk, rfl, hall⟩ := hrel
        by_cases hlt : k < L.length
        · obtain ⟨c, hc⟩ : ∃ c : Nat, L[k].toNat = c := ⟨_, rfl⟩
          have hb := byte_bs L k hlt (by rw [hS]; exact hlt) hc
          have H2 := H.out c
          clear H
          rcases nam_cases c with ⟨hl, hn⟩ | ⟨hl, hcs, hn⟩ | ⟨hl, hcs, hn⟩
          · have E : Hid (namAll (L.take (k + 1)) = true) := Lib.hid (all_take hlt hall (by rw [hc]; exact hn))
            rw [hl] at H2
            replace H2 := Lib.hid H2
            replace hl := Lib.hid hl
            replace hn := Lib.hid hn
            replace hc := Lib.hid hc
            replace hall := Lib.hid hall
            go_wp2_with fail
            refine (H2.out _).mono ?_
            rintro e w1 ⟨rfl, rfl⟩
            go_wp2
            go_round
            case rel => exact ⟨k + 1, by omega, by go_num, E.out⟩
            case measure => simp [intOf]; omega
          · have E : Hid (namAll (L.take (k + 1)) = true) := Lib.hid (all_take hlt hall (by rw [hc]; exact hn))
            rw [hl] at H2
            replace H2 := Lib.hid H2
            replace hl := Lib.hid hl
            replace hn := Lib.hid hn
            replace hc := Lib.hid hc
            replace hall := Lib.hid hall
            rcases hcs with rfl | rfl | rfl | ⟨h48, h57⟩
            all_goals
              go_wp2_with fail
              refine (H2.out _).mono ?_
              rintro e w1 ⟨rfl, rfl⟩
              go_wp2
              go_round
              case rel => exact ⟨k + 1, by omega, by go_num, E.out⟩
              case measure => simp [intOf]; omega
          · have E : Hid (namE L = 2) := Lib.hid (by
              have e : namAll L = false := all_stop hlt (by rw [hc]; exact hn)
              unfold namE; rw [e]; simp)
            rw [hl] at H2
            replace H2 := Lib.hid H2
            replace hl := Lib.hid hl
            replace hn := Lib.hid hn
            replace hc := Lib.hid hc
            replace hall := Lib.hid hall
            have n1 : ((c : Int) != 95) = true := bne_iff_ne.2 (by omega)
            have n2 : ((c : Int) != 45) = true := bne_iff_ne.2 (by omega)
            have n3 : ((c : Int) != 47) = true := bne_iff_ne.2 (by omega)
            rcases hcs with ⟨h48, h45, h47⟩ | ⟨h57, h95⟩
            all_goals
              go_wp2_with fail
              refine (H2.out _).mono ?_
              rintro e w1 ⟨rfl, rfl⟩
              go_wp2
              go_ret
              exact ⟨by rw [E.out]; try rfl, rfl⟩
        · obtain rfl : k = L.length := by omega
          rw [List.take_length] at hall
          have E : Hid (namE L = 0) := Lib.hid (by unfold namE; exact if_pos ⟨by omega, by omega, hall⟩)
          replace hall := Lib.hid hall
          go_wp2
          go_ret
          exact ⟨by rw [E.out]; try rfl, rfl⟩
theorem rName_any (L : List UInt8) (hL : L.length ≤ 100000) (w : World) : Calls Tryz.prog 42 #[.string (bs L)] w fun e w' => e = .returned (.int .i64 (namE L)) ∧ w = w' := rName_all L (by omega) w
end Go.Proofs.YtacpcjdiljnlaaaGreatDoor
namespace Go.Proofs.YtacpcjdiljnlaaaGreatDoor
set_option linter.unusedVariables false
set_option linter.unusedSimpArgs false
open Go.ChangeShapes Go.WideShapes Go.ChangeAt Go.RowKit
def dgt (p : Int) : UInt8 := UInt8.ofNat (48 + p).toNat
theorem dgt_nat {p : Int} (h0 : 0 ≤ p) (h9 : p ≤ 9) : (dgt p).toNat = 48 + p.toNat := by
  unfold dgt
  rw [UInt8.toNat_ofNat']
  omega
end Go.Proofs.YtacpcjdiljnlaaaGreatDoor
namespace Go.Proofs.YtacpcjdiljnlaaaGreatDoor
set_option linter.unusedVariables false
set_option linter.unusedSimpArgs false
open Go.ChangeShapes Go.WideShapes Go.ChangeAt Go.RowKit
def wkS (k : Int) : List UInt8 :=
  if k = 1 then [109, 111, 110] else if k = 2 then [116, 117, 101] else if k = 3 then [119, 101, 100] else if k = 4 then [116, 104, 117] else if k = 5 then [102, 114, 105] else if k = 6 then [115, 97, 116] else if k = 7 then [115, 117, 110] else []
@[irreducible] def wkdI (t : List UInt8) : Int :=
  if t = [109, 111, 110] then 1 else if t = [116, 117, 101] then 2 else if t = [119, 101, 100] then 3 else if t = [116, 104, 117] then 4 else if t = [102, 114, 105] then 5 else if t = [115, 97, 116] then 6 else if t = [115, 117, 110] then 7 else 0
theorem wkd_1 : wkdI [109, 111, 110] = 1 := by unfold wkdI; rfl
theorem wkd_2 : wkdI [116, 117, 101] = 2 := by unfold wkdI; rfl
theorem wkd_3 : wkdI [119, 101, 100] = 3 := by unfold wkdI; rfl
theorem wkd_4 : wkdI [116, 104, 117] = 4 := by unfold wkdI; rfl
theorem wkd_5 : wkdI [102, 114, 105] = 5 := by unfold wkdI; rfl
theorem wkd_6 : wkdI [115, 97, 116] = 6 := by unfold wkdI; rfl
theorem wkd_7 : wkdI [115, 117, 110] = 7 := by unfold wkdI; rfl
theorem wkd_none {t : List UInt8} (h1 : t ≠ [109, 111, 110]) (h2 : t ≠ [116, 117, 101]) (h3 : t ≠ [119, 101, 100]) (h4 : t ≠ [116, 104, 117]) (h5 : t ≠ [102, 114, 105]) (h6 : t ≠ [115, 97, 116]) (h7 : t ≠ [115, 117, 110]) : wkdI t = 0 := by
  unfold wkdI
  rw [if_neg h1, if_neg h2, if_neg h3, if_neg h4, if_neg h5, if_neg h6, if_neg h7]
theorem wkd_bd (t : List UInt8) : 0 ≤ wkdI t ∧ wkdI t ≤ 7 := by
  unfold wkdI
  repeat' split
  all_goals decide
theorem wkS_len (k : Int) (h1 : 1 ≤ k) (h7 : k ≤ 7) : (wkS k).length = 3 := by
  rcases (by omega : k = 1 ∨ k = 2 ∨ k = 3 ∨ k = 4 ∨ k = 5 ∨ k = 6 ∨ k = 7) with rfl | rfl | rfl | rfl | rfl | rfl | rfl <;> rfl
theorem wkd_some {t : List UInt8} (h : wkdI t ≠ 0) : t = wkS (wkdI t) := by
  by_cases h1 : t = [109, 111, 110]
  · subst h1; rw [wkd_1]; rfl
  by_cases h2 : t = [116, 117, 101]
  · subst h2; rw [wkd_2]; rfl
  by_cases h3 : t = [119, 101, 100]
  · subst h3; rw [wkd_3]; rfl
  by_cases h4 : t = [116, 104, 117]
  · subst h4; rw [wkd_4]; rfl
  by_cases h5 : t = [102, 114, 105]
  · subst h5; rw [wkd_5]; rfl
  by_cases h6 : t = [115, 97, 116]
  · subst h6; rw [wkd_6]; rfl
  by_cases h7 : t = [115, 117, 110]
  · subst h7; rw [wkd_7]; rfl
  exact absurd (wkd_none h1 h2 h3 h4 h5 h6 h7) h
theorem bs_lit (l : List UInt8) (a : Array UInt8) (h : a.toList = l) : (⟨a⟩ : ByteArray) = bs l := by subst h; unfold bs; simp
set_option maxHeartbeats 1600000 in
set_option maxRecDepth 100000 in
theorem rWeekday_1 (w : World) : Calls Tryz.prog 152 #[.string (bs [109, 111, 110])] w fun e w' => e = .returned (.int .i64 1) ∧ Below w.heap.size w w' := by
  have l1 := bs_list [109, 111, 110]
  go_enter Tryz.func152, Tryz.ntmps152
  go_wp2_with fail
  refine wp_loop_rounds 2 ?_
  rw [rounds_succ]
  go_wp2_with fail
  go_ret
  exact ⟨by first | rfl | simp, (Below.refl _ _).alloc (Nat.le_refl _) _⟩
set_option maxHeartbeats 1600000 in
set_option maxRecDepth 100000 in
theorem rWeekday_2 (w : World) : Calls Tryz.prog 152 #[.string (bs [116, 117, 101])] w fun e w' => e = .returned (.int .i64 2) ∧ Below w.heap.size w w' := by
  have l1 := bs_list [116, 117, 101]
  go_enter Tryz.func152, Tryz.ntmps152
  go_wp2_with fail
  refine wp_loop_rounds 3 ?_
  rw [rounds_succ]
  go_wp2_with fail
  rw [rounds_succ]
  go_wp2_with fail
  go_ret
  exact ⟨by first | rfl | simp, (Below.refl _ _).alloc (Nat.le_refl _) _⟩
set_option maxHeartbeats 1600000 in
set_option maxRecDepth 100000 in
theorem rWeekday_3 (w : World) : Calls Tryz.prog 152 #[.string (bs [119, 101, 100])] w fun e w' => e = .returned (.int .i64 3) ∧ Below w.heap.size w w' := by
  have l1 := bs_list [119, 101, 100]
  go_enter Tryz.func152, Tryz.ntmps152
  go_wp2_with fail
  refine wp_loop_rounds 4 ?_
  rw [rounds_succ]
  go_wp2_with fail
  rw [rounds_succ]
  go_wp2_with fail
  rw [rounds_succ]
  go_wp2_with fail
  go_ret
  exact ⟨by first | rfl | simp, (Below.refl _ _).alloc (Nat.le_refl _) _⟩
set_option maxHeartbeats 1600000 in
set_option maxRecDepth 100000 in
theorem rWeekday_4 (w : World) : Calls Tryz.prog 152 #[.string (bs [116, 104, 117])] w fun e w' => e = .returned (.int .i64 4) ∧ Below w.heap.size w w' := by
  have l1 := bs_list [116, 104, 117]
  go_enter Tryz.func152, Tryz.ntmps152
  go_wp2_with fail
  refine wp_loop_rounds 5 ?_
  rw [rounds_succ]
  go_wp2_with fail
  rw [rounds_succ]
  go_wp2_with fail
  rw [rounds_succ]
  go_wp2_with fail
  rw [rounds_succ]
  go_wp2_with fail
  go_ret
  exact ⟨by first | rfl | simp, (Below.refl _ _).alloc (Nat.le_refl _) _⟩
set_option maxHeartbeats 1600000 in
set_option maxRecDepth 100000 in
theorem rWeekday_5 (w : World) : Calls Tryz.prog 152 #[.string (bs [102, 114, 105])] w fun e w' => e = .returned (.int .i64 5) ∧ Below w.heap.size w w' := by
  have l1 := bs_list [102, 114, 105]
  go_enter Tryz.func152, Tryz.ntmps152
  go_wp2_with fail
  refine wp_loop_rounds 6 ?_
  rw [rounds_succ]
  go_wp2_with fail
  rw [rounds_succ]
  go_wp2_with fail
  rw [rounds_succ]
  go_wp2_with fail
  rw [rounds_succ]
  go_wp2_with fail
  rw [rounds_succ]
  go_wp2_with fail
  go_ret
  exact ⟨by first | rfl | simp, (Below.refl _ _).alloc (Nat.le_refl _) _⟩
set_option maxHeartbeats 1600000 in
set_option maxRecDepth 100000 in
theorem rWeekday_6 (w : World) : Calls Tryz.prog 152 #[.string (bs [115, 97, 116])] w fun e w' => e = .returned (.int .i64 6) ∧ Below w.heap.size w w' := by
  have l1 := bs_list [115, 97, 116]
  go_enter Tryz.func152, Tryz.ntmps152
  go_wp2_with fail
  refine wp_loop_rounds 7 ?_
  rw [rounds_succ]
  go_wp2_with fail
  rw [rounds_succ]
  go_wp2_with fail
  rw [rounds_succ]
  go_wp2_with fail
  rw [rounds_succ]
  go_wp2_with fail
  rw [rounds_succ]
  go_wp2_with fail
  rw [rounds_succ]
  go_wp2_with fail
  go_ret
  exact ⟨by first | rfl | simp, (Below.refl _ _).alloc (Nat.le_refl _) _⟩
set_option maxHeartbeats 1600000 in
set_option maxRecDepth 100000 in
theorem rWeekday_7 (w : World) : Calls Tryz.prog 152 #[.string (bs [115, 117, 110])] w fun e w' => e = .returned (.int .i64 7) ∧ Below w.heap.size w w' := by
  have l1 := bs_list [115, 117, 110]
  go_enter Tryz.func152, Tryz.ntmps152
  go_wp2_with fail
  refine wp_loop_rounds 8 ?_
  rw [rounds_succ]
  go_wp2_with fail
  rw [rounds_succ]
  go_wp2_with fail
  rw [rounds_succ]
  go_wp2_with fail
  rw [rounds_succ]
  go_wp2_with fail
  rw [rounds_succ]
  go_wp2_with fail
  rw [rounds_succ]
  go_wp2_with fail
  rw [rounds_succ]
  go_wp2_with fail
  go_ret
  exact ⟨by first | rfl | simp, (Below.refl _ _).alloc (Nat.le_refl _) _⟩
set_option maxHeartbeats 1600000 in
set_option maxRecDepth 100000 in
theorem rWeekday_none (t : List UInt8) (h1 : t ≠ [109, 111, 110]) (h2 : t ≠ [116, 117, 101]) (h3 : t ≠ [119, 101, 100]) (h4 : t ≠ [116, 104, 117]) (h5 : t ≠ [102, 114, 105]) (h6 : t ≠ [115, 97, 116]) (h7 : t ≠ [115, 117, 110]) (w : World) : Calls Tryz.prog 152 #[.string (bs t)] w fun e w' => e = .returned (.int .i64 0) ∧ Below w.heap.size w w' := by
  have l1 := bs_list t
  have q1 : ([109, 111, 110] == t) = false := beq_eq_false_iff_ne.2 (fun e => h1 e.symm)
  have q2 : ([116, 117, 101] == t) = false := beq_eq_false_iff_ne.2 (fun e => h2 e.symm)
  have q3 : ([119, 101, 100] == t) = false := beq_eq_false_iff_ne.2 (fun e => h3 e.symm)
  have q4 : ([116, 104, 117] == t) = false := beq_eq_false_iff_ne.2 (fun e => h4 e.symm)
  have q5 : ([102, 114, 105] == t) = false := beq_eq_false_iff_ne.2 (fun e => h5 e.symm)
  have q6 : ([115, 97, 116] == t) = false := beq_eq_false_iff_ne.2 (fun e => h6 e.symm)
  have q7 : ([115, 117, 110] == t) = false := beq_eq_false_iff_ne.2 (fun e => h7 e.symm)
  clear h1 h2 h3 h4 h5 h6 h7
  go_enter Tryz.func152, Tryz.ntmps152
  go_wp2_with fail
  refine wp_loop_rounds 9 ?_
  rw [rounds_succ]
  go_wp2_with fail
  rw [rounds_succ]
  go_wp2_with fail
  rw [rounds_succ]
  go_wp2_with fail
  rw [rounds_succ]
  go_wp2_with fail
  rw [rounds_succ]
  go_wp2_with fail
  rw [rounds_succ]
  go_wp2_with fail
  rw [rounds_succ]
  go_wp2_with fail
  rw [rounds_succ]
  go_wp2_with fail
  go_ret
  exact ⟨by first | rfl | simp, (Below.refl _ _).alloc (Nat.le_refl _) _⟩
theorem rWeekday_any (t : List UInt8) (w : World) : Calls Tryz.prog 152 #[.string (bs t)] w fun e w' => e = .returned (.int .i64 (wkdI t)) ∧ Below w.heap.size w w' := by
  by_cases h1 : t = [109, 111, 110]
  · subst h1; rw [wkd_1]; exact rWeekday_1 w
  by_cases h2 : t = [116, 117, 101]
  · subst h2; rw [wkd_2]; exact rWeekday_2 w
  by_cases h3 : t = [119, 101, 100]
  · subst h3; rw [wkd_3]; exact rWeekday_3 w
  by_cases h4 : t = [116, 104, 117]
  · subst h4; rw [wkd_4]; exact rWeekday_4 w
  by_cases h5 : t = [102, 114, 105]
  · subst h5; rw [wkd_5]; exact rWeekday_5 w
  by_cases h6 : t = [115, 97, 116]
  · subst h6; rw [wkd_6]; exact rWeekday_6 w
  by_cases h7 : t = [115, 117, 110]
  · subst h7; rw [wkd_7]; exact rWeekday_7 w
  rw [wkd_none h1 h2 h3 h4 h5 h6 h7]
  exact rWeekday_none t h1 h2 h3 h4 h5 h6 h7 w
end Go.Proofs.YtacpcjdiljnlaaaGreatDoor
namespace Go.Proofs.YtacpcjdiljnlaaaGreatDoor
set_option linter.unusedVariables false
set_option linter.unusedSimpArgs false
open Go.ChangeShapes Go.WideShapes Go.ChangeAt Go.RowKit
def lastL : List UInt8 := [108, 97, 115, 116, 45]
@[irreducible] def dayR (t : List UInt8) : Int × Int × Int × Int :=
  if 5 ≤ t.length ∧ t.take 5 = lastL then (if wkdI (t.drop 5) = 0 then (0, 0, 0, 2) else (1, 0, wkdI (t.drop 5), 0))
  else if 5 < t.length ∧ 0 < wkdI (t.take 3) then
    (if (t.take 5).drop 3 = [62, 61] then (if numE (t.drop 5) 1 31 = 0 then (2, numV (t.drop 5) 1 31, wkdI (t.take 3), 0) else (0, 0, 0, numE (t.drop 5) 1 31))
     else if (t.take 5).drop 3 = [60, 61] then (if numE (t.drop 5) 1 31 = 0 then (3, numV (t.drop 5) 1 31, wkdI (t.take 3), 0) else (0, 0, 0, numE (t.drop 5) 1 31))
     else (0, 0, 0, 2))
  else if numE t 1 31 = 0 then (0, numV t 1 31, 0, 0) else (0, 0, 0, numE t 1 31)
theorem day_last0 {t : List UInt8} (h : 5 ≤ t.length) (h2 : t.take 5 = lastL) (h3 : wkdI (t.drop 5) = 0) : dayR t = (0, 0, 0, 2) := by
  unfold dayR; rw [if_pos ⟨h, h2⟩]; exact if_pos h3
theorem day_last {t : List UInt8} (h : 5 ≤ t.length) (h2 : t.take 5 = lastL) (h3 : wkdI (t.drop 5) ≠ 0) : dayR t = (1, 0, wkdI (t.drop 5), 0) := by
  unfold dayR; rw [if_pos ⟨h, h2⟩]; exact if_neg h3
theorem day_from {t : List UInt8} (h2 : t.take 5 ≠ lastL) (h3 : 5 < t.length) (h4 : 0 < wkdI (t.take 3)) (h5 : (t.take 5).drop 3 = [62, 61]) : dayR t = (if numE (t.drop 5) 1 31 = 0 then (2, numV (t.drop 5) 1 31, wkdI (t.take 3), 0) else (0, 0, 0, numE (t.drop 5) 1 31)) := by
  unfold dayR; rw [if_neg (fun h => h2 h.2), if_pos ⟨h3, h4⟩]; exact if_pos h5
theorem day_before {t : List UInt8} (h2 : t.take 5 ≠ lastL) (h3 : 5 < t.length) (h4 : 0 < wkdI (t.take 3)) (h5 : (t.take 5).drop 3 = [60, 61]) : dayR t = (if numE (t.drop 5) 1 31 = 0 then (3, numV (t.drop 5) 1 31, wkdI (t.take 3), 0) else (0, 0, 0, numE (t.drop 5) 1 31)) := by
  unfold dayR; rw [if_neg (fun h => h2 h.2), if_pos ⟨h3, h4⟩, if_neg (by rw [h5]; decide)]; exact if_pos h5
theorem day_odd {t : List UInt8} (h2 : t.take 5 ≠ lastL) (h3 : 5 < t.length) (h4 : 0 < wkdI (t.take 3)) (h5 : (t.take 5).drop 3 ≠ [62, 61]) (h6 : (t.take 5).drop 3 ≠ [60, 61]) : dayR t = (0, 0, 0, 2) := by
  unfold dayR; rw [if_neg (fun h => h2 h.2), if_pos ⟨h3, h4⟩, if_neg h5]; exact if_neg h6
theorem day_date {t : List UInt8} (h : ¬ (5 ≤ t.length ∧ t.take 5 = lastL)) (h2 : ¬ (5 < t.length ∧ 0 < wkdI (t.take 3))) : dayR t = (if numE t 1 31 = 0 then (0, numV t 1 31, 0, 0) else (0, 0, 0, numE t 1 31)) := by
  unfold dayR; rw [if_neg h]; exact if_neg h2
set_option maxHeartbeats 6400000 in
set_option maxRecDepth 100000 in
theorem rDay_any (t : List UInt8) (hL : t.length ≤ 100000) (w : World) : Calls Tryz.prog 128 #[.string (bs t)] w fun e w' => e = .returned (.tuple #[.agg #[.int .i64 (dayR t).1, .int .i64 (dayR t).2.1, .int .i64 (dayR t).2.2.1], .int .i64 (dayR t).2.2.2]) ∧ Below w.heap.size w w' := by
  have hS := bs_size t
  have h5 := fun W h => slice_upto t 5 h (B := 5) rfl W
  have h5' := fun W h => slice_from t 5 h (A := 5) rfl W
  have h3 := fun W h => slice_upto t 3 h (B := 3) rfl W
  have h35 := fun W h => slice_bs t 3 5 (by decide) h (A := 3) (B := 5) rfl rfl W
  have l5 := bs_list (t.take 5)
  have lm := bs_list ((t.take 5).drop 3)
  have HW := Lib.hid rWeekday_any
  have HN := Lib.hid (fun T h w => grow_of (rNum14_any T 1 31 h w))
  by_cases h1 : 5 ≤ t.length
  · by_cases h2 : t.take 5 = lastL
    · replace h5 := fun W => h5 W (by omega)
      replace h5' := fun W => h5' W (by omega)
      replace h3 := fun W => h3 W (by omega)
      replace h35 := fun W => h35 W (by omega)
      have hq : (t.take 5 == [108, 97, 115, 116, 45]) = true := by rw [h2]; rfl
      have F0 := day_last0 (t := t) h1 h2
      have F1 := day_last (t := t) h1 h2
      have H := Lib.hid (HW.out (t.drop 5))
      replace h2 := Lib.hid h2
      clear HN HW h3 h35 lm
      generalize t.take 5 = T5 at *
      generalize t.drop 5 = D5 at *
      generalize t.take 3 = T3 at *
      have wb := wkd_bd D5
      generalize hWV : wkdI D5 = WV at *
      replace hWV := Lib.hid hWV
      by_cases h0 : WV = 0
      · have E := Lib.hid (F0 h0)
        clear F0 F1
        subst h0
        go_enter Tryz.func128, Tryz.ntmps128
        refine wp_shut ?_
        go_wp2_with fail
        
        refine (H.out _).mono ?_
        rintro e V1 ⟨rfl, hb1⟩
        have B1 := nby hb1
        have Z1 := Lib.hid (row_call hb1 (heap_alloc_new _ _))
        clear hb1
        obtain ⟨Z1_0, Z1_1, Z1_2⟩ := qw3 Z1
        have Z1_f0 : V1.frozen? ⟨w.heap.size, 0, none⟩ = false := by simp [World.frozen?, Z1.out]
        have Z1_f1 : V1.frozen? ⟨w.heap.size, 1, none⟩ = false := by simp [World.frozen?, Z1.out]
        have Z1_f2 : V1.frozen? ⟨w.heap.size, 2, none⟩ = false := by simp [World.frozen?, Z1.out]
        have zZ1 := lt_of_heap Z1.out
        go_simp
        go_wp2
        refine shut_ret (v := .tuple #[.agg #[.int .i64 0, .int .i64 0, .int .i64 0], .int .i64 2]) (by simp [results, Tryz.results128, go_sem, zZ1, Z1_0, Z1_1, Z1_2]) rfl ⟨by rw [E.out], ?_⟩
        exact keep3 B1.out (Nat.le_refl _) _ _ _
      · have E := Lib.hid (F1 h0)
        clear F0 F1
        have f1 : decide (WV = 0) = false := decide_eq_false h0
        have f2 : (WV == 0) = false := beq_eq_false_iff_ne.2 h0
        replace h0 := Lib.hid h0
        go_enter Tryz.func128, Tryz.ntmps128
        refine wp_shut ?_
        go_wp2_with fail
        
        refine (H.out _).mono ?_
        rintro e V1 ⟨rfl, hb1⟩
        have B1 := nby hb1
        have Z1 := Lib.hid (row_call hb1 (heap_alloc_new _ _))
        clear hb1
        obtain ⟨Z1_0, Z1_1, Z1_2⟩ := qw3 Z1
        have Z1_f0 : V1.frozen? ⟨w.heap.size, 0, none⟩ = false := by simp [World.frozen?, Z1.out]
        have Z1_f1 : V1.frozen? ⟨w.heap.size, 1, none⟩ = false := by simp [World.frozen?, Z1.out]
        have Z1_f2 : V1.frozen? ⟨w.heap.size, 2, none⟩ = false := by simp [World.frozen?, Z1.out]
        have zZ1 := lt_of_heap Z1.out
        go_simp
        go_wp2
        refine shut_ret (v := .tuple #[.agg #[.int .i64 1, .int .i64 0, .int .i64 WV], .int .i64 0]) (by simp [results, Tryz.results128, go_sem, zZ1, Z1_0, Z1_1, Z1_2]) rfl ⟨by rw [E.out], ?_⟩
        exact keep3 B1.out (Nat.le_refl _) _ _ _
    · replace h5 := fun W => h5 W (by omega)
      replace h5' := fun W => h5' W (by omega)
      replace h3 := fun W => h3 W (by omega)
      replace h35 := fun W => h35 W (by omega)
      by_cases h4 : 5 < t.length
      · by_cases hw : 0 < wkdI (t.take 3)
        · have H0 := HW.out (t.take 3)
          have HY := Lib.hid (HN.out (t.drop 5) (by simp; omega))
          have wb := wkd_bd (t.take 3)
          have hq : (t.take 5 == [108, 97, 115, 116, 45]) = false := beq_eq_false_iff_ne.2 h2
          have G1 := day_from (t := t) h2 h4
          have G2 := day_before (t := t) h2 h4
          have G3 := day_odd (t := t) h2 h4
          clear HN HW
          replace h2 := Lib.hid h2
          generalize hMM : (t.take 5).drop 3 = M at *
          replace hMM := Lib.hid hMM
          generalize t.take 5 = T5 at *
          generalize t.drop 5 = D5 at *
          generalize t.take 3 = T3 at *
          generalize hWV : wkdI T3 = WV at *
          replace hWV := Lib.hid hWV
          have HX := Lib.hid H0
          have HX0 := HX
          clear H0
          by_cases hm : M = [62, 61]
          · have E0 := G1 hw hm
            generalize hEV : numE D5 1 31 = EE at *
            generalize hNV : numV D5 1 31 = NN at *
            replace hEV := Lib.hid hEV
            replace hNV := Lib.hid hNV
            clear G1 G2 G3
            subst hm
            by_cases hE0 : EE = 0
            · rw [if_pos hE0] at E0
              have E := Lib.hid E0
              clear E0
              subst hE0
              go_enter Tryz.func128, Tryz.ntmps128
              refine wp_shut ?_
              go_wp2_with fail
              
              refine (HX0.out _).mono ?_
              rintro e V1 ⟨rfl, hb1⟩
              have B1 := nby hb1
              have Z1 := Lib.hid (row_call hb1 (heap_alloc_new _ _))
              clear hb1
              obtain ⟨Z1_0, Z1_1, Z1_2⟩ := qw3 Z1
              have Z1_f0 : V1.frozen? ⟨w.heap.size, 0, none⟩ = false := by simp [World.frozen?, Z1.out]
              have Z1_f1 : V1.frozen? ⟨w.heap.size, 1, none⟩ = false := by simp [World.frozen?, Z1.out]
              have Z1_f2 : V1.frozen? ⟨w.heap.size, 2, none⟩ = false := by simp [World.frozen?, Z1.out]
              have zZ1 := lt_of_heap Z1.out
              go_simp
              go_wp2_with fail
              refine (HY.out _).mono ?_
              rintro e V2 ⟨rfl, hb2⟩
              clear Z1_0 Z1_1 Z1_2 Z1_f0 Z1_f1 Z1_f2 zZ1
              have B2 : Hid (Below w.heap.size w V2) := nbx B1 hb2
              replace Z1 := rcx hb2 Z1
              clear hb2
              obtain ⟨Z1_0, Z1_1, Z1_2⟩ := qw3 Z1
              have Z1_f0 : V2.frozen? ⟨w.heap.size, 0, none⟩ = false := by simp [World.frozen?, Z1.out]
              have Z1_f1 : V2.frozen? ⟨w.heap.size, 1, none⟩ = false := by simp [World.frozen?, Z1.out]
              have Z1_f2 : V2.frozen? ⟨w.heap.size, 2, none⟩ = false := by simp [World.frozen?, Z1.out]
              have zZ1 := lt_of_heap Z1.out
              go_simp
              go_wp2_with fail
              refine (HX.out _).mono ?_
              rintro e V3 ⟨rfl, hb3⟩
              clear Z1_0 Z1_1 Z1_2 Z1_f0 Z1_f1 Z1_f2 zZ1
              have B3 : Hid (Below w.heap.size w V3) := nbx B2 hb3
              replace Z1 := rcx hb3 Z1
              clear hb3
              obtain ⟨Z1_0, Z1_1, Z1_2⟩ := qw3 Z1
              have Z1_f0 : V3.frozen? ⟨w.heap.size, 0, none⟩ = false := by simp [World.frozen?, Z1.out]
              have Z1_f1 : V3.frozen? ⟨w.heap.size, 1, none⟩ = false := by simp [World.frozen?, Z1.out]
              have Z1_f2 : V3.frozen? ⟨w.heap.size, 2, none⟩ = false := by simp [World.frozen?, Z1.out]
              have zZ1 := lt_of_heap Z1.out
              go_simp
              go_wp2
              refine shut_ret (v := .tuple #[.agg #[.int .i64 2, .int .i64 NN, .int .i64 WV], .int .i64 0]) (by simp [results, Tryz.results128, go_sem, zZ1, Z1_0, Z1_1, Z1_2]) rfl ⟨by rw [E.out], ?_⟩
              exact keep3 B3.out (Nat.le_refl _) _ _ _
            · rw [if_neg hE0] at E0
              have E := Lib.hid E0
              clear E0
              have f1 : (EE != 0) = true := bne_iff_ne.2 hE0
              replace hE0 := Lib.hid hE0
              go_enter Tryz.func128, Tryz.ntmps128
              refine wp_shut ?_
              go_wp2_with fail
              
              refine (HX0.out _).mono ?_
              rintro e V1 ⟨rfl, hb1⟩
              have B1 := nby hb1
              have Z1 := Lib.hid (row_call hb1 (heap_alloc_new _ _))
              clear hb1
              obtain ⟨Z1_0, Z1_1, Z1_2⟩ := qw3 Z1
              have Z1_f0 : V1.frozen? ⟨w.heap.size, 0, none⟩ = false := by simp [World.frozen?, Z1.out]
              have Z1_f1 : V1.frozen? ⟨w.heap.size, 1, none⟩ = false := by simp [World.frozen?, Z1.out]
              have Z1_f2 : V1.frozen? ⟨w.heap.size, 2, none⟩ = false := by simp [World.frozen?, Z1.out]
              have zZ1 := lt_of_heap Z1.out
              go_simp
              go_wp2_with fail
              refine (HY.out _).mono ?_
              rintro e V2 ⟨rfl, hb2⟩
              clear Z1_0 Z1_1 Z1_2 Z1_f0 Z1_f1 Z1_f2 zZ1
              have B2 : Hid (Below w.heap.size w V2) := nbx B1 hb2
              replace Z1 := rcx hb2 Z1
              clear hb2
              obtain ⟨Z1_0, Z1_1, Z1_2⟩ := qw3 Z1
              have Z1_f0 : V2.frozen? ⟨w.heap.size, 0, none⟩ = false := by simp [World.frozen?, Z1.out]
              have Z1_f1 : V2.frozen? ⟨w.heap.size, 1, none⟩ = false := by simp [World.frozen?, Z1.out]
              have Z1_f2 : V2.frozen? ⟨w.heap.size, 2, none⟩ = false := by simp [World.frozen?, Z1.out]
              have zZ1 := lt_of_heap Z1.out
              go_simp
              go_wp2
              refine shut_ret (v := .tuple #[.agg #[.int .i64 0, .int .i64 0, .int .i64 0], .int .i64 EE]) (by simp [results, Tryz.results128, go_sem, zZ1, Z1_0, Z1_1, Z1_2]) rfl ⟨by rw [E.out], ?_⟩
              exact keep3 B2.out (Nat.le_refl _) _ _ _
          · have hm0 := hm
            clear hm
            by_cases hm : M = [60, 61]
            · have E0 := G2 hw hm
              generalize hEV : numE D5 1 31 = EE at *
              generalize hNV : numV D5 1 31 = NN at *
              replace hEV := Lib.hid hEV
              replace hNV := Lib.hid hNV
              clear G1 G2 G3
              subst hm
              by_cases hE0 : EE = 0
              · rw [if_pos hE0] at E0
                have E := Lib.hid E0
                clear E0
                subst hE0
                go_enter Tryz.func128, Tryz.ntmps128
                refine wp_shut ?_
                go_wp2_with fail
                
                refine (HX0.out _).mono ?_
                rintro e V1 ⟨rfl, hb1⟩
                have B1 := nby hb1
                have Z1 := Lib.hid (row_call hb1 (heap_alloc_new _ _))
                clear hb1
                obtain ⟨Z1_0, Z1_1, Z1_2⟩ := qw3 Z1
                have Z1_f0 : V1.frozen? ⟨w.heap.size, 0, none⟩ = false := by simp [World.frozen?, Z1.out]
                have Z1_f1 : V1.frozen? ⟨w.heap.size, 1, none⟩ = false := by simp [World.frozen?, Z1.out]
                have Z1_f2 : V1.frozen? ⟨w.heap.size, 2, none⟩ = false := by simp [World.frozen?, Z1.out]
                have zZ1 := lt_of_heap Z1.out
                go_simp
                go_wp2_with fail
                refine (HY.out _).mono ?_
                rintro e V2 ⟨rfl, hb2⟩
                clear Z1_0 Z1_1 Z1_2 Z1_f0 Z1_f1 Z1_f2 zZ1
                have B2 : Hid (Below w.heap.size w V2) := nbx B1 hb2
                replace Z1 := rcx hb2 Z1
                clear hb2
                obtain ⟨Z1_0, Z1_1, Z1_2⟩ := qw3 Z1
                have Z1_f0 : V2.frozen? ⟨w.heap.size, 0, none⟩ = false := by simp [World.frozen?, Z1.out]
                have Z1_f1 : V2.frozen? ⟨w.heap.size, 1, none⟩ = false := by simp [World.frozen?, Z1.out]
                have Z1_f2 : V2.frozen? ⟨w.heap.size, 2, none⟩ = false := by simp [World.frozen?, Z1.out]
                have zZ1 := lt_of_heap Z1.out
                go_simp
                go_wp2_with fail
                refine (HX.out _).mono ?_
                rintro e V3 ⟨rfl, hb3⟩
                clear Z1_0 Z1_1 Z1_2 Z1_f0 Z1_f1 Z1_f2 zZ1
                have B3 : Hid (Below w.heap.size w V3) := nbx B2 hb3
                replace Z1 := rcx hb3 Z1
                clear hb3
                obtain ⟨Z1_0, Z1_1, Z1_2⟩ := qw3 Z1
                have Z1_f0 : V3.frozen? ⟨w.heap.size, 0, none⟩ = false := by simp [World.frozen?, Z1.out]
                have Z1_f1 : V3.frozen? ⟨w.heap.size, 1, none⟩ = false := by simp [World.frozen?, Z1.out]
                have Z1_f2 : V3.frozen? ⟨w.heap.size, 2, none⟩ = false := by simp [World.frozen?, Z1.out]
                have zZ1 := lt_of_heap Z1.out
                go_simp
                go_wp2
                refine shut_ret (v := .tuple #[.agg #[.int .i64 3, .int .i64 NN, .int .i64 WV], .int .i64 0]) (by simp [results, Tryz.results128, go_sem, zZ1, Z1_0, Z1_1, Z1_2]) rfl ⟨by rw [E.out], ?_⟩
                exact keep3 B3.out (Nat.le_refl _) _ _ _
              · rw [if_neg hE0] at E0
                have E := Lib.hid E0
                clear E0
                have f1 : (EE != 0) = true := bne_iff_ne.2 hE0
                replace hE0 := Lib.hid hE0
                go_enter Tryz.func128, Tryz.ntmps128
                refine wp_shut ?_
                go_wp2_with fail
                
                refine (HX0.out _).mono ?_
                rintro e V1 ⟨rfl, hb1⟩
                have B1 := nby hb1
                have Z1 := Lib.hid (row_call hb1 (heap_alloc_new _ _))
                clear hb1
                obtain ⟨Z1_0, Z1_1, Z1_2⟩ := qw3 Z1
                have Z1_f0 : V1.frozen? ⟨w.heap.size, 0, none⟩ = false := by simp [World.frozen?, Z1.out]
                have Z1_f1 : V1.frozen? ⟨w.heap.size, 1, none⟩ = false := by simp [World.frozen?, Z1.out]
                have Z1_f2 : V1.frozen? ⟨w.heap.size, 2, none⟩ = false := by simp [World.frozen?, Z1.out]
                have zZ1 := lt_of_heap Z1.out
                go_simp
                go_wp2_with fail
                refine (HY.out _).mono ?_
                rintro e V2 ⟨rfl, hb2⟩
                clear Z1_0 Z1_1 Z1_2 Z1_f0 Z1_f1 Z1_f2 zZ1
                have B2 : Hid (Below w.heap.size w V2) := nbx B1 hb2
                replace Z1 := rcx hb2 Z1
                clear hb2
                obtain ⟨Z1_0, Z1_1, Z1_2⟩ := qw3 Z1
                have Z1_f0 : V2.frozen? ⟨w.heap.size, 0, none⟩ = false := by simp [World.frozen?, Z1.out]
                have Z1_f1 : V2.frozen? ⟨w.heap.size, 1, none⟩ = false := by simp [World.frozen?, Z1.out]
                have Z1_f2 : V2.frozen? ⟨w.heap.size, 2, none⟩ = false := by simp [World.frozen?, Z1.out]
                have zZ1 := lt_of_heap Z1.out
                go_simp
                go_wp2
                refine shut_ret (v := .tuple #[.agg #[.int .i64 0, .int .i64 0, .int .i64 0], .int .i64 EE]) (by simp [results, Tryz.results128, go_sem, zZ1, Z1_0, Z1_1, Z1_2]) rfl ⟨by rw [E.out], ?_⟩
                exact keep3 B2.out (Nat.le_refl _) _ _ _
            · have E := Lib.hid (G3 hw hm0 hm)
              clear G1 G2 G3
              have m1 : (M == [62, 61]) = false := beq_eq_false_iff_ne.2 hm0
              have m2 : (M == [60, 61]) = false := beq_eq_false_iff_ne.2 hm
              replace hm := Lib.hid hm
              replace hm0 := Lib.hid hm0
              go_enter Tryz.func128, Tryz.ntmps128
              refine wp_shut ?_
              go_wp2_with fail
              
              refine (HX0.out _).mono ?_
              rintro e V1 ⟨rfl, hb1⟩
              have B1 := nby hb1
              have Z1 := Lib.hid (row_call hb1 (heap_alloc_new _ _))
              clear hb1
              obtain ⟨Z1_0, Z1_1, Z1_2⟩ := qw3 Z1
              have Z1_f0 : V1.frozen? ⟨w.heap.size, 0, none⟩ = false := by simp [World.frozen?, Z1.out]
              have Z1_f1 : V1.frozen? ⟨w.heap.size, 1, none⟩ = false := by simp [World.frozen?, Z1.out]
              have Z1_f2 : V1.frozen? ⟨w.heap.size, 2, none⟩ = false := by simp [World.frozen?, Z1.out]
              have zZ1 := lt_of_heap Z1.out
              go_simp
              go_wp2
              refine shut_ret (v := .tuple #[.agg #[.int .i64 0, .int .i64 0, .int .i64 0], .int .i64 2]) (by simp [results, Tryz.results128, go_sem, zZ1, Z1_0, Z1_1, Z1_2]) rfl ⟨by rw [E.out], ?_⟩
              exact keep3 B1.out (Nat.le_refl _) _ _ _
        · have FA : ¬ (5 ≤ t.length ∧ t.take 5 = lastL) := fun h => h2 h.2
          have FB : ¬ (5 < t.length ∧ 0 < wkdI (t.take 3)) := fun h => hw h.2
          have HY := Lib.hid (HN.out t hL)
          have H0 := HW.out (t.take 3)
          have wb := wkd_bd (t.take 3)
          have hw0 : wkdI (t.take 3) = 0 := by omega
          rw [hw0] at H0
          have HX0 := Lib.hid H0
          have hq : (t.take 5 == [108, 97, 115, 116, 45]) = false := beq_eq_false_iff_ne.2 h2
          have E0 := day_date (t := t) FA FB
          generalize hEV : numE t 1 31 = EE at *
          generalize hNV : numV t 1 31 = NN at *
          replace hEV := Lib.hid hEV
          replace hNV := Lib.hid hNV
          clear FA FB hw hw0 wb H0 HW HN
          replace h2 := Lib.hid h2
          generalize t.take 5 = T5 at *
          generalize t.drop 5 = D5 at *
          generalize t.take 3 = T3 at *
          by_cases hE0 : EE = 0
          · rw [if_pos hE0] at E0
            have E := Lib.hid E0
            clear E0
            subst hE0
            go_enter Tryz.func128, Tryz.ntmps128
            refine wp_shut ?_
            go_wp2_with fail
            
            refine (HX0.out _).mono ?_
            rintro e V1 ⟨rfl, hb1⟩
            have B1 := nby hb1
            have Z1 := Lib.hid (row_call hb1 (heap_alloc_new _ _))
            clear hb1
            obtain ⟨Z1_0, Z1_1, Z1_2⟩ := qw3 Z1
            have Z1_f0 : V1.frozen? ⟨w.heap.size, 0, none⟩ = false := by simp [World.frozen?, Z1.out]
            have Z1_f1 : V1.frozen? ⟨w.heap.size, 1, none⟩ = false := by simp [World.frozen?, Z1.out]
            have Z1_f2 : V1.frozen? ⟨w.heap.size, 2, none⟩ = false := by simp [World.frozen?, Z1.out]
            have zZ1 := lt_of_heap Z1.out
            go_simp
            go_wp2_with fail
            refine (HY.out _).mono ?_
            rintro e V2 ⟨rfl, hb2⟩
            clear Z1_0 Z1_1 Z1_2 Z1_f0 Z1_f1 Z1_f2 zZ1
            have B2 : Hid (Below w.heap.size w V2) := nbx B1 hb2
            replace Z1 := rcx hb2 Z1
            clear hb2
            obtain ⟨Z1_0, Z1_1, Z1_2⟩ := qw3 Z1
            have Z1_f0 : V2.frozen? ⟨w.heap.size, 0, none⟩ = false := by simp [World.frozen?, Z1.out]
            have Z1_f1 : V2.frozen? ⟨w.heap.size, 1, none⟩ = false := by simp [World.frozen?, Z1.out]
            have Z1_f2 : V2.frozen? ⟨w.heap.size, 2, none⟩ = false := by simp [World.frozen?, Z1.out]
            have zZ1 := lt_of_heap Z1.out
            go_simp
            go_wp2
            refine shut_ret (v := .tuple #[.agg #[.int .i64 0, .int .i64 NN, .int .i64 0], .int .i64 0]) (by simp [results, Tryz.results128, go_sem, zZ1, Z1_0, Z1_1, Z1_2]) rfl ⟨by rw [E.out], ?_⟩
            exact keep3 B2.out (Nat.le_refl _) _ _ _
          · rw [if_neg hE0] at E0
            have E := Lib.hid E0
            clear E0
            have f1 : (EE != 0) = true := bne_iff_ne.2 hE0
            replace hE0 := Lib.hid hE0
            go_enter Tryz.func128, Tryz.ntmps128
            refine wp_shut ?_
            go_wp2_with fail
            
            refine (HX0.out _).mono ?_
            rintro e V1 ⟨rfl, hb1⟩
            have B1 := nby hb1
            have Z1 := Lib.hid (row_call hb1 (heap_alloc_new _ _))
            clear hb1
            obtain ⟨Z1_0, Z1_1, Z1_2⟩ := qw3 Z1
            have Z1_f0 : V1.frozen? ⟨w.heap.size, 0, none⟩ = false := by simp [World.frozen?, Z1.out]
            have Z1_f1 : V1.frozen? ⟨w.heap.size, 1, none⟩ = false := by simp [World.frozen?, Z1.out]
            have Z1_f2 : V1.frozen? ⟨w.heap.size, 2, none⟩ = false := by simp [World.frozen?, Z1.out]
            have zZ1 := lt_of_heap Z1.out
            go_simp
            go_wp2_with fail
            refine (HY.out _).mono ?_
            rintro e V2 ⟨rfl, hb2⟩
            clear Z1_0 Z1_1 Z1_2 Z1_f0 Z1_f1 Z1_f2 zZ1
            have B2 : Hid (Below w.heap.size w V2) := nbx B1 hb2
            replace Z1 := rcx hb2 Z1
            clear hb2
            obtain ⟨Z1_0, Z1_1, Z1_2⟩ := qw3 Z1
            have Z1_f0 : V2.frozen? ⟨w.heap.size, 0, none⟩ = false := by simp [World.frozen?, Z1.out]
            have Z1_f1 : V2.frozen? ⟨w.heap.size, 1, none⟩ = false := by simp [World.frozen?, Z1.out]
            have Z1_f2 : V2.frozen? ⟨w.heap.size, 2, none⟩ = false := by simp [World.frozen?, Z1.out]
            have zZ1 := lt_of_heap Z1.out
            go_simp
            go_wp2
            refine shut_ret (v := .tuple #[.agg #[.int .i64 0, .int .i64 0, .int .i64 0], .int .i64 EE]) (by simp [results, Tryz.results128, go_sem, zZ1, Z1_0, Z1_1, Z1_2]) rfl ⟨by rw [E.out], ?_⟩
            exact keep3 B2.out (Nat.le_refl _) _ _ _
      · have FA : ¬ (5 ≤ t.length ∧ t.take 5 = lastL) := fun h => h2 h.2
        have FB : ¬ (5 < t.length ∧ 0 < wkdI (t.take 3)) := fun h => h4 h.1
        have HY := Lib.hid (HN.out t hL)
        have hq : (t.take 5 == [108, 97, 115, 116, 45]) = false := beq_eq_false_iff_ne.2 h2
        have E0 := day_date (t := t) FA FB
        generalize hEV : numE t 1 31 = EE at *
        generalize hNV : numV t 1 31 = NN at *
        replace hEV := Lib.hid hEV
        replace hNV := Lib.hid hNV
        clear FA FB HW HN
        replace h2 := Lib.hid h2
        generalize t.take 5 = T5 at *
        generalize t.drop 5 = D5 at *
        generalize t.take 3 = T3 at *
        by_cases hE0 : EE = 0
        · rw [if_pos hE0] at E0
          have E := Lib.hid E0
          clear E0
          subst hE0
          go_enter Tryz.func128, Tryz.ntmps128
          refine wp_shut ?_
          go_wp2_with fail
          
          refine (HY.out _).mono ?_
          rintro e V1 ⟨rfl, hb1⟩
          have B1 := nby hb1
          have Z1 := Lib.hid (row_call hb1 (heap_alloc_new _ _))
          clear hb1
          obtain ⟨Z1_0, Z1_1, Z1_2⟩ := qw3 Z1
          have Z1_f0 : V1.frozen? ⟨w.heap.size, 0, none⟩ = false := by simp [World.frozen?, Z1.out]
          have Z1_f1 : V1.frozen? ⟨w.heap.size, 1, none⟩ = false := by simp [World.frozen?, Z1.out]
          have Z1_f2 : V1.frozen? ⟨w.heap.size, 2, none⟩ = false := by simp [World.frozen?, Z1.out]
          have zZ1 := lt_of_heap Z1.out
          go_simp
          go_wp2
          refine shut_ret (v := .tuple #[.agg #[.int .i64 0, .int .i64 NN, .int .i64 0], .int .i64 0]) (by simp [results, Tryz.results128, go_sem, zZ1, Z1_0, Z1_1, Z1_2]) rfl ⟨by rw [E.out], ?_⟩
          exact keep3 B1.out (Nat.le_refl _) _ _ _
        · rw [if_neg hE0] at E0
          have E := Lib.hid E0
          clear E0
          have f1 : (EE != 0) = true := bne_iff_ne.2 hE0
          replace hE0 := Lib.hid hE0
          go_enter Tryz.func128, Tryz.ntmps128
          refine wp_shut ?_
          go_wp2_with fail
          
          refine (HY.out _).mono ?_
          rintro e V1 ⟨rfl, hb1⟩
          have B1 := nby hb1
          have Z1 := Lib.hid (row_call hb1 (heap_alloc_new _ _))
          clear hb1
          obtain ⟨Z1_0, Z1_1, Z1_2⟩ := qw3 Z1
          have Z1_f0 : V1.frozen? ⟨w.heap.size, 0, none⟩ = false := by simp [World.frozen?, Z1.out]
          have Z1_f1 : V1.frozen? ⟨w.heap.size, 1, none⟩ = false := by simp [World.frozen?, Z1.out]
          have Z1_f2 : V1.frozen? ⟨w.heap.size, 2, none⟩ = false := by simp [World.frozen?, Z1.out]
          have zZ1 := lt_of_heap Z1.out
          go_simp
          go_wp2
          refine shut_ret (v := .tuple #[.agg #[.int .i64 0, .int .i64 0, .int .i64 0], .int .i64 EE]) (by simp [results, Tryz.results128, go_sem, zZ1, Z1_0, Z1_1, Z1_2]) rfl ⟨by rw [E.out], ?_⟩
          exact keep3 B1.out (Nat.le_refl _) _ _ _
  · have FA : ¬ (5 ≤ t.length ∧ t.take 5 = lastL) := fun h => h1 h.1
    have FB : ¬ (5 < t.length ∧ 0 < wkdI (t.take 3)) := fun h => h1 (by omega)
    have HY := Lib.hid (HN.out t hL)
    have E0 := day_date (t := t) FA FB
    generalize hEV : numE t 1 31 = EE at *
    generalize hNV : numV t 1 31 = NN at *
    replace hEV := Lib.hid hEV
    replace hNV := Lib.hid hNV
    clear FA FB HW HN h5 h5' h3 h35 l5 lm
    by_cases hE0 : EE = 0
    · rw [if_pos hE0] at E0
      have E := Lib.hid E0
      clear E0
      subst hE0
      go_enter Tryz.func128, Tryz.ntmps128
      refine wp_shut ?_
      go_wp2_with fail
      
      refine (HY.out _).mono ?_
      rintro e V1 ⟨rfl, hb1⟩
      have B1 := nby hb1
      have Z1 := Lib.hid (row_call hb1 (heap_alloc_new _ _))
      clear hb1
      obtain ⟨Z1_0, Z1_1, Z1_2⟩ := qw3 Z1
      have Z1_f0 : V1.frozen? ⟨w.heap.size, 0, none⟩ = false := by simp [World.frozen?, Z1.out]
      have Z1_f1 : V1.frozen? ⟨w.heap.size, 1, none⟩ = false := by simp [World.frozen?, Z1.out]
      have Z1_f2 : V1.frozen? ⟨w.heap.size, 2, none⟩ = false := by simp [World.frozen?, Z1.out]
      have zZ1 := lt_of_heap Z1.out
      go_simp
      go_wp2
      refine shut_ret (v := .tuple #[.agg #[.int .i64 0, .int .i64 NN, .int .i64 0], .int .i64 0]) (by simp [results, Tryz.results128, go_sem, zZ1, Z1_0, Z1_1, Z1_2]) rfl ⟨by rw [E.out], ?_⟩
      exact keep3 B1.out (Nat.le_refl _) _ _ _
    · rw [if_neg hE0] at E0
      have E := Lib.hid E0
      clear E0
      have f1 : (EE != 0) = true := bne_iff_ne.2 hE0
      replace hE0 := Lib.hid hE0
      go_enter Tryz.func128, Tryz.ntmps128
      refine wp_shut ?_
      go_wp2_with fail
      
      refine (HY.out _).mono ?_
      rintro e V1 ⟨rfl, hb1⟩
      have B1 := nby hb1
      have Z1 := Lib.hid (row_call hb1 (heap_alloc_new _ _))
      clear hb1
      obtain ⟨Z1_0, Z1_1, Z1_2⟩ := qw3 Z1
      have Z1_f0 : V1.frozen? ⟨w.heap.size, 0, none⟩ = false := by simp [World.frozen?, Z1.out]
      have Z1_f1 : V1.frozen? ⟨w.heap.size, 1, none⟩ = false := by simp [World.frozen?, Z1.out]
      have Z1_f2 : V1.frozen? ⟨w.heap.size, 2, none⟩ = false := by simp [World.frozen?, Z1.out]
      have zZ1 := lt_of_heap Z1.out
      go_simp
      go_wp2
      refine shut_ret (v := .tuple #[.agg #[.int .i64 0, .int .i64 0, .int .i64 0], .int .i64 EE]) (by simp [results, Tryz.results128, go_sem, zZ1, Z1_0, Z1_1, Z1_2]) rfl ⟨by rw [E.out], ?_⟩
      exact keep3 B1.out (Nat.le_refl _) _ _ _
end Go.Proofs.YtacpcjdiljnlaaaGreatDoor
namespace Go.Proofs.YtacpcjdiljnlaaaGreatDoor
set_option linter.unusedVariables false
set_option linter.unusedSimpArgs false
theorem dgB_dgt {p : Int} (h0 : 0 ≤ p) (h9 : p ≤ 9) : dgB (dgt p) = true := by rw [dgB_iff, dgt_nat h0 h9]; omega
def nmL (n : Int) : List UInt8 := if 10 ≤ n then [dgt (n / 10), dgt (n % 10)] else [dgt (n % 10)]
theorem wk_fin : ∀ w : Fin 7, ∀ n : Fin 31, dayR (wkS ((w.val : Int) + 1) ++ [62, 61] ++ nmL ((n.val : Int) + 1)) = (2, (n.val : Int) + 1, (w.val : Int) + 1, 0) ∧ dayR (wkS ((w.val : Int) + 1) ++ [60, 61] ++ nmL ((n.val : Int) + 1)) = (3, (n.val : Int) + 1, (w.val : Int) + 1, 0) := by decide +kernel
theorem nm_fin : ∀ n : Fin 31, dayR (nmL ((n.val : Int) + 1)) = (0, (n.val : Int) + 1, 0, 0) := by decide +kernel
theorem last_fin : ∀ w : Fin 7, dayR (lastL ++ wkS ((w.val : Int) + 1)) = (1, 0, (w.val : Int) + 1, 0) := by decide +kernel
theorem wk_days {w n : Int} (w1 : 1 ≤ w) (w7 : w ≤ 7) (n1 : 1 ≤ n) (n31 : n ≤ 31) : dayR (lastL ++ wkS w) = (1, 0, w, 0) ∧ dayR (wkS w ++ [62, 61] ++ nmL n) = (2, n, w, 0) ∧ dayR (wkS w ++ [60, 61] ++ nmL n) = (3, n, w, 0) ∧ dayR (nmL n) = (0, n, 0, 0) := by
  have ew : (((⟨(w - 1).toNat, by omega⟩ : Fin 7).val : Nat) : Int) + 1 = w := by simp; omega
  have en : (((⟨(n - 1).toNat, by omega⟩ : Fin 31).val : Nat) : Int) + 1 = n := by simp; omega
  have a := wk_fin ⟨(w - 1).toNat, by omega⟩ ⟨(n - 1).toNat, by omega⟩
  have b := nm_fin ⟨(n - 1).toNat, by omega⟩
  have c := last_fin ⟨(w - 1).toNat, by omega⟩
  rw [ew, en] at a
  rw [en] at b
  rw [ew] at c
  exact ⟨c, a.1, a.2, b⟩
end Go.Proofs.YtacpcjdiljnlaaaGreatDoor
