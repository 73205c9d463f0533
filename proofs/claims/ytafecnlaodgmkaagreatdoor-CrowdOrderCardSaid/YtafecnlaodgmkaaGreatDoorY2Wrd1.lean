/- Several texts in one: WrdA, WrdB, WrdC, WrdD, WrdE, WrdF, WrdG, WrdM. -/
import Derived.Test.YtafecnlaodgmkaaGreatDoorY2Pkg1
import Derived.Test.YtafecnlaodgmkaaGreatDoorY2RowS1
import Derived.Test.YtafecnlaodgmkaaGreatDoorY2Civ1
import Derived.Test.YtafecnlaodgmkaaGreatDoorY2Lex1
import Derived.Laws.IdiomStrings
namespace Go.Proofs.YtafecnlaodgmkaaGreatDoor
set_option linter.unusedVariables false
set_option linter.unusedSimpArgs false
open Go.ChangeShapes Go.WideShapes Go.ChangeAt Go.RowKit
def dgB (c : UInt8) : Bool := decide (48 ≤ c.toNat) && decide (c.toNat ≤ 57)
theorem dgB_iff (c : UInt8) : dgB c = true ↔ 48 ≤ c.toNat ∧ c.toNat ≤ 57 := by unfold dgB; simp
def dval (t : List UInt8) : Nat := t.foldl (fun a c => 10 * a + (c.toNat - 48)) 0
theorem dval_snoc (t : List UInt8) (c : UInt8) : dval (t ++ [c]) = 10 * dval t + (c.toNat - 48) := by unfold dval; rw [List.foldl_append]; rfl
theorem dval_lt (t : List UInt8) (h : t.all dgB = true) : dval t < 10 ^ t.length := by
  induction t using snocInd with
  | h0 => decide
  | h t c ih =>
    rw [List.all_append, Bool.and_eq_true] at h
    have h1 := ih h.1
    have h2 : dgB c = true := by simpa using h.2
    rw [dgB_iff] at h2
    rw [dval_snoc, List.length_append, List.length_singleton, Nat.pow_succ]
    omega
theorem pow_le18 {n : Nat} (h : n ≤ 17) : 10 ^ n ≤ 100000000000000000 := Nat.le_trans (Nat.pow_le_pow_right (by decide) h) (by decide)
def sub (L : List UInt8) (a n : Nat) : List UInt8 := (L.drop a).take n
end Go.Proofs.YtafecnlaodgmkaaGreatDoor
namespace Go.Proofs.YtafecnlaodgmkaaGreatDoor
set_option linter.unusedVariables false
set_option linter.unusedSimpArgs false
open Go.ChangeShapes Go.WideShapes Go.ChangeAt Go.RowKit
def negB (L : List UInt8) : Bool := match L with | c :: _ => c.toNat == 45 | [] => false
def bodyN (L : List UInt8) : List UInt8 := if negB L = true then L.drop 1 else L
def zero1 (t : List UInt8) : Bool := match t with | c :: _ => c.toNat == 48 | [] => false
def numF (t : List UInt8) (neg : Bool) : Bool := decide (1 ≤ t.length) && decide (t.length ≤ 6) && t.all dgB && !(zero1 t && (decide (1 < t.length) || neg))
@[irreducible] def numI (L : List UInt8) : Int := if negB L = true then -(dval (bodyN L) : Int) else (dval (bodyN L) : Int)
@[irreducible] def numE (L : List UInt8) (lo hi : Int) : Int := if numF (bodyN L) (negB L) = true then (if numI L < lo ∨ hi < numI L then 8 else 0) else 2
@[irreducible] def numV (L : List UInt8) (lo hi : Int) : Int := if numE L lo hi = 0 then numI L else 0
theorem num_form {L : List UInt8} {lo hi : Int} (h : numF (bodyN L) (negB L) = false) : numE L lo hi = 2 ∧ numV L lo hi = 0 := by
  have e : numE L lo hi = 2 := by unfold numE; exact if_neg (by rw [h]; decide)
  exact ⟨e, by unfold numV; rw [e]; rfl⟩
theorem num_range {L : List UInt8} {lo hi : Int} (h : numF (bodyN L) (negB L) = true) (h2 : numI L < lo ∨ hi < numI L) : numE L lo hi = 8 ∧ numV L lo hi = 0 := by
  have e : numE L lo hi = 8 := by unfold numE; rw [if_pos h]; exact if_pos h2
  exact ⟨e, by unfold numV; rw [e]; rfl⟩
theorem num_ok {L : List UInt8} {lo hi : Int} (h : numF (bodyN L) (negB L) = true) (h2 : ¬ (numI L < lo ∨ hi < numI L)) : numE L lo hi = 0 ∧ numV L lo hi = numI L := by
  have e : numE L lo hi = 0 := by unfold numE; rw [if_pos h]; exact if_neg h2
  exact ⟨e, by unfold numV; rw [e]; rfl⟩
theorem numF_short {t : List UInt8} {neg : Bool} (h : t.length < 1) : numF t neg = false := by unfold numF; rw [decide_eq_false (show ¬ 1 ≤ t.length by omega)]; rfl
theorem numF_odd {t : List UInt8} {neg : Bool} (h : ¬ t.all dgB = true) : numF t neg = false := by unfold numF; rw [Bool.eq_false_iff.2 h]; simp
theorem numF_zero {t : List UInt8} {neg : Bool} (h : zero1 t = true) (h2 : 1 < t.length ∨ neg = true) : numF t neg = false := by
  unfold numF
  rw [h]
  rcases h2 with h2 | h2
  · rw [decide_eq_true h2]; simp
  · rw [h2]; simp
theorem numF_yes {t : List UInt8} {neg : Bool} (h1 : 1 ≤ t.length) (h6 : t.length ≤ 6) (h : t.all dgB = true) (hz : zero1 t = false ∨ (¬ 1 < t.length ∧ neg = false)) : numF t neg = true := by
  unfold numF
  rw [decide_eq_true h1, decide_eq_true h6, h]
  rcases hz with hz | ⟨hz, hn⟩
  · rw [hz]; rfl
  · rw [hn, decide_eq_false hz]; simp
theorem neg_at {L : List UInt8} (h : 0 < L.length) : negB L = (L[0].toNat == 45) ∧ zero1 L = (L[0].toNat == 48) := by
  cases L with
  | nil => simp at h
  | cons c r => exact ⟨rfl, rfl⟩
theorem body_neg {L : List UInt8} (h : negB L = true) : bodyN L = L.drop 1 ∧ 0 < L.length := by
  refine ⟨if_pos h, ?_⟩
  cases L with
  | nil => cases h
  | cons c r => simp
theorem body_pos {L : List UInt8} (h : negB L = false) : bodyN L = L := if_neg (by rw [h]; decide)
theorem numI_neg {L : List UInt8} (h : negB L = true) : numI L = -(dval (bodyN L) : Int) := by unfold numI; exact if_pos h
theorem numI_pos {L : List UInt8} (h : negB L = false) : numI L = (dval (bodyN L) : Int) := by unfold numI; exact if_neg (by rw [h]; decide)
end Go.Proofs.YtafecnlaodgmkaaGreatDoor
namespace Go.Proofs.YtafecnlaodgmkaaGreatDoor
set_option linter.unusedVariables false
set_option linter.unusedSimpArgs false
open Go.ChangeShapes Go.WideShapes Go.ChangeAt Go.RowKit
def hd0 (L : List UInt8) : Nat := (L.getD 0 0).toNat
end Go.Proofs.YtafecnlaodgmkaaGreatDoor
namespace Go.Proofs.YtafecnlaodgmkaaGreatDoor
set_option linter.unusedVariables false
set_option linter.unusedSimpArgs false
open Go.ChangeShapes Go.WideShapes Go.ChangeAt Go.RowKit
@[irreducible] def letN (c : Nat) : Bool := (decide (97 ≤ c) && decide (c ≤ 122)) || (decide (65 ≤ c) && decide (c ≤ 90))
theorem let_cases (c : Nat) : (c < 65 ∧ letN c = false) ∨ ((65 ≤ c ∧ c ≤ 90) ∧ letN c = true) ∨ ((90 < c ∧ c < 97) ∧ letN c = false) ∨ ((97 ≤ c ∧ c ≤ 122) ∧ letN c = true) ∨ (122 < c ∧ letN c = false) := by
  unfold letN
  by_cases h1 : c < 65
  · left; refine ⟨h1, ?_⟩; simp; omega
  · by_cases h2 : c ≤ 90
    · right; left; refine ⟨by omega, ?_⟩; simp; omega
    · by_cases h3 : c < 97
      · right; right; left; refine ⟨by omega, ?_⟩; simp; omega
      · by_cases h4 : c ≤ 122
        · right; right; right; left; refine ⟨by omega, ?_⟩; simp; omega
        · right; right; right; right; refine ⟨by omega, ?_⟩; simp; omega
set_option maxHeartbeats 1600000 in
theorem rLetter_p (c : Nat) (w : World) : Calls Tryz.prog 37 #[.int .u8 (c : Int)] w fun e w' => e = .returned (.bool (letN c)) ∧ w = w' := by
  rcases let_cases c with ⟨h, E⟩ | ⟨⟨h, h2⟩, E⟩ | ⟨⟨h, h2⟩, E⟩ | ⟨⟨h, h2⟩, E⟩ | ⟨h, E⟩
  all_goals
    replace E := Lib.hid E
    go_enter Tryz.func37, Tryz.ntmps37
    go_wp2
    go_ret
    exact ⟨by rw [E.out]; first | rfl | (simp; omega), rfl⟩
def letAll (L : List UInt8) : Bool := L.all (fun c => letN c.toNat)
@[irreducible] def abbE (L : List UInt8) : Int := if letAll L = true ∧ 1 ≤ L.length ∧ L.length ≤ 6 then 0 else 2
theorem all_take {α : Type} {p : α → Bool} {L : List α} {k : Nat} (hk : k < L.length) (h : (L.take k).all p = true) (hc : p L[k] = true) : (L.take (k + 1)).all p = true := by
  rw [List.take_succ_eq_append_getElem hk, List.all_append, h]; simp [hc]
theorem all_stop {α : Type} {p : α → Bool} {L : List α} {k : Nat} (hk : k < L.length) (hc : p L[k] = false) : L.all p = false := by
  rw [List.all_eq_false]
  exact ⟨L[k], List.getElem_mem hk, by rw [hc]; decide⟩
set_option maxHeartbeats 1600000 in
set_option maxRecDepth 100000 in
theorem rAbbr_all (L : List UInt8) (hL : L.length ≤ 9223372036854775807) (w : World) : Calls Tryz.prog 38 #[.string (bs L)] w fun e w' => e = .returned (.int .i64 (abbE L)) ∧ w = w' := by
  have hS := bs_size L
  have H := Lib.hid rLetter_p
  go_enter Tryz.func38, Tryz.ntmps38
  go_wp2
  go_loop [3] (fun i => ∃ k : Nat, k ≤ L.length ∧ i = .int .i64 (k : Int) ∧ letAll (L.take k) = true) (fun i => L.length - (intOf i).toNat)
  case atStart => exact ⟨0, by omega, rfl, rfl⟩
  case round =>
    obtain ⟨k, hk, rfl, hall⟩ := hrel
    by_cases hlt : k < L.length
    · obtain ⟨c, hc⟩ : ∃ c : Nat, L[k].toNat = c := ⟨_, rfl⟩
      have hb := byte_bs L k hlt (by rw [hS]; exact hlt) hc
      have H2 := H.out c
      cases hl : letN c
      · have E : Hid (abbE L = 2) := Lib.hid (by
          have e : letAll L = false := all_stop hlt (by rw [hc]; exact hl)
          unfold abbE; rw [e]; rfl)
        rw [hl] at H2
        replace H2 := Lib.hid H2
        replace hl := Lib.hid hl
        replace hc := Lib.hid hc
        replace hall := Lib.hid hall
        go_wp2_with fail
        refine (H2.out _).mono ?_
        rintro e w1 ⟨rfl, rfl⟩
        go_wp2
        go_ret
        exact ⟨by rw [E.out]; try rfl, rfl⟩
      · have E : Hid (letAll (L.take (k + 1)) = true) := Lib.hid (all_take hlt hall (by rw [hc]; exact hl))
        rw [hl] at H2
        replace H2 := Lib.hid H2
        replace hl := Lib.hid hl
        replace hc := Lib.hid hc
        replace hall := Lib.hid hall
        go_wp2_with fail
        refine (H2.out _).mono ?_
        rintro e w1 ⟨rfl, rfl⟩
        go_wp2
        go_round
        case rel => exact ⟨k + 1, by omega, by go_num, E.out⟩
        case measure => simp [intOf]; omega
    · obtain rfl : k = L.length := by omega
      rw [List.take_length] at hall
      clear H
      by_cases h1 : L.length < 1
      · have E : Hid (abbE L = 2) := Lib.hid (by unfold abbE; exact if_neg (by omega))
        replace hall := Lib.hid hall
        go_wp2
        go_ret
        exact ⟨by rw [E.out]; try rfl, rfl⟩
      · by_cases h6 : 6 < L.length
        · have E : Hid (abbE L = 2) := Lib.hid (by unfold abbE; exact if_neg (by omega))
          replace hall := Lib.hid hall
          go_wp2
          go_ret
          exact ⟨by rw [E.out]; try rfl, rfl⟩
        · have E : Hid (abbE L = 0) := Lib.hid (by unfold abbE; exact if_pos ⟨hall, by omega, by omega⟩)
          replace hall := Lib.hid hall
          go_wp2
          go_ret
          exact ⟨by rw [E.out]; try rfl, rfl⟩
@[irreducible] def namN (c : Nat) : Bool := letN c || (decide (48 ≤ c) && decide (c ≤ 57)) || c == 95 || c == 45 || c == 47
def namAll (L : List UInt8) : Bool := L.all (fun c => namN c.toNat)
@[irreducible] def namE (L : List UInt8) : Int := if 1 ≤ L.length ∧ L.length ≤ 32 ∧ namAll L = true then 0 else 2
theorem nam_cases (c : Nat) : (letN c = true ∧ namN c = true) ∨ (letN c = false ∧ ((c = 95 ∨ c = 45 ∨ c = 47 ∨ (48 ≤ c ∧ c ≤ 57)) ∧ namN c = true)) ∨ (letN c = false ∧ ((c < 48 ∧ c ≠ 45 ∧ c ≠ 47) ∨ (57 < c ∧ c ≠ 95)) ∧ namN c = false) := by
  unfold namN
  cases hl : letN c
  · by_cases h : (c = 95 ∨ c = 45 ∨ c = 47 ∨ (48 ≤ c ∧ c ≤ 57))
    · right; left; refine ⟨rfl, h, ?_⟩; simp; omega
    · right; right; refine ⟨rfl, by omega, ?_⟩; simp; omega
  · left; exact ⟨rfl, rfl⟩
set_option maxHeartbeats 3200000 in
set_option maxRecDepth 100000 in
theorem rName_all (L : List UInt8) (hL : L.length ≤ 9223372036854775807) (w : World) : Calls Tryz.prog 25 #[.string (bs L)] w fun e w' => e = .returned (.int .i64 (namE L)) ∧ w = w' := by
  have hS := bs_size L
  by_cases h1 : L.length < 1
  · have E : Hid (namE L = 2) := Lib.hid (by unfold namE; exact if_neg (by omega))
    go_enter Tryz.func25, Tryz.ntmps25
    go_wp2
    go_ret
    exact ⟨by rw [E.out]; try rfl, rfl⟩
  · by_cases h32 : 32 < L.length
    · have E : Hid (namE L = 2) := Lib.hid (by unfold namE; exact if_neg (by omega))
      go_enter Tryz.func25, Tryz.ntmps25
      go_wp2
      go_ret
      exact ⟨by rw [E.out]; try rfl, rfl⟩
    · have H := Lib.hid rLetter_p
      have q1 : decide ((L.length : Int) < 1) = false := decide_eq_false (by omega)
      have q2 : decide (32 < (L.length : Int)) = false := decide_eq_false (by omega)
      go_enter Tryz.func25, Tryz.ntmps25
      go_wp2
      go_loop [3] (fun i => ∃ k : Nat, k ≤ L.length ∧ i = .int .i64 (k : Int) ∧ namAll (L.take k) = true) (fun i => L.length - (intOf i).toNat)
      case atStart => exact ⟨0, by omega, rfl, rfl⟩
      case round =>
        obtain ⟨k, hk, rfl, hall⟩ := hrel
        by_cases hlt : k < L.length
        · obtain ⟨c, hc⟩ : ∃ c : Nat, L[k].toNat = c := ⟨_, rfl⟩
          have hb := byte_bs L k hlt (by rw [hS]; exact hlt) hc
          have H2 := H.out c
          clear H
          rcases nam_cases c with ⟨hl, hn⟩ | ⟨hl, hcs, hn⟩ | ⟨hl, hcs, hn⟩
          · have E : Hid (namAll (L.take (k + 1)) = true) := Lib.hid (all_take hlt hall (by rw [hc]; exact hn))
            rw [hl] at H2
            replace H2 := Lib.hid H2
            replace hl := Lib.hid hl
            replace hn := Lib.hid hn
            replace hc := Lib.hid hc
            replace hall := Lib.hid hall
            go_wp2_with fail
            refine (H2.out _).mono ?_
            rintro e w1 ⟨rfl, rfl⟩
            go_wp2
            go_round
            case rel => exact ⟨k + 1, by omega, by go_num, E.out⟩
            case measure => simp [intOf]; omega
          · have E : Hid (namAll (L.take (k + 1)) = true) := Lib.hid (all_take hlt hall (by rw [hc]; exact hn))
            rw [hl] at H2
            replace H2 := Lib.hid H2
            replace hl := Lib.hid hl
            replace hn := Lib.hid hn
            replace hc := Lib.hid hc
            replace hall := Lib.hid hall
            rcases hcs with rfl | rfl | rfl | ⟨h48, h57⟩
            all_goals
              go_wp2_with fail
              refine (H2.out _).mono ?_
              rintro e w1 ⟨rfl, rfl⟩
              go_wp2
              go_round
              case rel => exact ⟨k + 1, by omega, by go_num, E.out⟩
              case measure => simp [intOf]; omega
          · have E : Hid (namE L = 2) := Lib.hid (by
              have e : namAll L = false := all_stop hlt (by rw [hc]; exact hn)
              unfold namE; rw [e]; simp)
            rw [hl] at H2
            replace H2 := Lib.hid H2
            replace hl := Lib.hid hl
            replace hn := Lib.hid hn
            replace hc := Lib.hid hc
            replace hall := Lib.hid hall
            have n1 : ((c : Int) != 95) = true := bne_iff_ne.2 (by omega)
            have n2 : ((c : Int) != 45) = true := bne_iff_ne.2 (by omega)
            have n3 : ((c : Int) != 47) = true := bne_iff_ne.2 (by omega)
            rcases hcs with ⟨h48, h45, h47⟩ | ⟨h57, h95⟩
            all_goals
              go_wp2_with fail
              refine (H2.out _).mono ?_
              rintro e w1 ⟨rfl, rfl⟩
              go_wp2
              go_ret
              exact ⟨by rw [E.out]; try rfl, rfl⟩
        · obtain rfl : k = L.length := by omega
          rw [List.take_length] at hall
          have E : Hid (namE L = 0) := Lib.hid (by unfold namE; exact if_pos ⟨by omega, by omega, hall⟩)
          replace hall := Lib.hid hall
          go_wp2
          go_ret
          exact ⟨by rw [E.out]; try rfl, rfl⟩
end Go.Proofs.YtafecnlaodgmkaaGreatDoor
namespace Go.Proofs.YtafecnlaodgmkaaGreatDoor
set_option linter.unusedVariables false
set_option linter.unusedSimpArgs false
open Go.ChangeShapes Go.WideShapes Go.ChangeAt Go.RowKit
def dgt (p : Int) : UInt8 := UInt8.ofNat (48 + p).toNat
theorem dgt_nat {p : Int} (h0 : 0 ≤ p) (h9 : p ≤ 9) : (dgt p).toNat = 48 + p.toNat := by
  unfold dgt
  rw [UInt8.toNat_ofNat']
  omega
end Go.Proofs.YtafecnlaodgmkaaGreatDoor
namespace Go.Proofs.YtafecnlaodgmkaaGreatDoor
set_option linter.unusedVariables false
set_option linter.unusedSimpArgs false
open Go.ChangeShapes Go.WideShapes Go.ChangeAt Go.RowKit
def wkS (k : Int) : List UInt8 :=
  if k = 1 then [109, 111, 110] else if k = 2 then [116, 117, 101] else if k = 3 then [119, 101, 100] else if k = 4 then [116, 104, 117] else if k = 5 then [102, 114, 105] else if k = 6 then [115, 97, 116] else if k = 7 then [115, 117, 110] else []
@[irreducible] def wkdI (t : List UInt8) : Int :=
  if t = [109, 111, 110] then 1 else if t = [116, 117, 101] then 2 else if t = [119, 101, 100] then 3 else if t = [116, 104, 117] then 4 else if t = [102, 114, 105] then 5 else if t = [115, 97, 116] then 6 else if t = [115, 117, 110] then 7 else 0
theorem wkd_1 : wkdI [109, 111, 110] = 1 := by unfold wkdI; rfl
theorem wkd_2 : wkdI [116, 117, 101] = 2 := by unfold wkdI; rfl
theorem wkd_3 : wkdI [119, 101, 100] = 3 := by unfold wkdI; rfl
theorem wkd_4 : wkdI [116, 104, 117] = 4 := by unfold wkdI; rfl
theorem wkd_5 : wkdI [102, 114, 105] = 5 := by unfold wkdI; rfl
theorem wkd_6 : wkdI [115, 97, 116] = 6 := by unfold wkdI; rfl
theorem wkd_7 : wkdI [115, 117, 110] = 7 := by unfold wkdI; rfl
theorem wkd_none {t : List UInt8} (h1 : t ≠ [109, 111, 110]) (h2 : t ≠ [116, 117, 101]) (h3 : t ≠ [119, 101, 100]) (h4 : t ≠ [116, 104, 117]) (h5 : t ≠ [102, 114, 105]) (h6 : t ≠ [115, 97, 116]) (h7 : t ≠ [115, 117, 110]) : wkdI t = 0 := by
  unfold wkdI
  rw [if_neg h1, if_neg h2, if_neg h3, if_neg h4, if_neg h5, if_neg h6, if_neg h7]
theorem wkd_bd (t : List UInt8) : 0 ≤ wkdI t ∧ wkdI t ≤ 7 := by
  unfold wkdI
  repeat' split
  all_goals decide
theorem wkS_len (k : Int) (h1 : 1 ≤ k) (h7 : k ≤ 7) : (wkS k).length = 3 := by
  rcases (by omega : k = 1 ∨ k = 2 ∨ k = 3 ∨ k = 4 ∨ k = 5 ∨ k = 6 ∨ k = 7) with rfl | rfl | rfl | rfl | rfl | rfl | rfl <;> rfl
theorem wkd_some {t : List UInt8} (h : wkdI t ≠ 0) : t = wkS (wkdI t) := by
  by_cases h1 : t = [109, 111, 110]
  · subst h1; rw [wkd_1]; rfl
  by_cases h2 : t = [116, 117, 101]
  · subst h2; rw [wkd_2]; rfl
  by_cases h3 : t = [119, 101, 100]
  · subst h3; rw [wkd_3]; rfl
  by_cases h4 : t = [116, 104, 117]
  · subst h4; rw [wkd_4]; rfl
  by_cases h5 : t = [102, 114, 105]
  · subst h5; rw [wkd_5]; rfl
  by_cases h6 : t = [115, 97, 116]
  · subst h6; rw [wkd_6]; rfl
  by_cases h7 : t = [115, 117, 110]
  · subst h7; rw [wkd_7]; rfl
  exact absurd (wkd_none h1 h2 h3 h4 h5 h6 h7) h
theorem bs_lit (l : List UInt8) (a : Array UInt8) (h : a.toList = l) : (⟨a⟩ : ByteArray) = bs l := by subst h; unfold bs; simp
end Go.Proofs.YtafecnlaodgmkaaGreatDoor
namespace Go.Proofs.YtafecnlaodgmkaaGreatDoor
set_option linter.unusedVariables false
set_option linter.unusedSimpArgs false
open Go.ChangeShapes Go.WideShapes Go.ChangeAt Go.RowKit
def lastL : List UInt8 := [108, 97, 115, 116, 45]
@[irreducible] def dayR (t : List UInt8) : Int × Int × Int × Int :=
  if 5 ≤ t.length ∧ t.take 5 = lastL then (if wkdI (t.drop 5) = 0 then (0, 0, 0, 2) else (1, 0, wkdI (t.drop 5), 0))
  else if 5 < t.length ∧ 0 < wkdI (t.take 3) then
    (if (t.take 5).drop 3 = [62, 61] then (if numE (t.drop 5) 1 31 = 0 then (2, numV (t.drop 5) 1 31, wkdI (t.take 3), 0) else (0, 0, 0, numE (t.drop 5) 1 31))
     else if (t.take 5).drop 3 = [60, 61] then (if numE (t.drop 5) 1 31 = 0 then (3, numV (t.drop 5) 1 31, wkdI (t.take 3), 0) else (0, 0, 0, numE (t.drop 5) 1 31))
     else (0, 0, 0, 2))
  else if numE t 1 31 = 0 then (0, numV t 1 31, 0, 0) else (0, 0, 0, numE t 1 31)
theorem day_last0 {t : List UInt8} (h : 5 ≤ t.length) (h2 : t.take 5 = lastL) (h3 : wkdI (t.drop 5) = 0) : dayR t = (0, 0, 0, 2) := by
  unfold dayR; rw [if_pos ⟨h, h2⟩]; exact if_pos h3
theorem day_last {t : List UInt8} (h : 5 ≤ t.length) (h2 : t.take 5 = lastL) (h3 : wkdI (t.drop 5) ≠ 0) : dayR t = (1, 0, wkdI (t.drop 5), 0) := by
  unfold dayR; rw [if_pos ⟨h, h2⟩]; exact if_neg h3
theorem day_from {t : List UInt8} (h2 : t.take 5 ≠ lastL) (h3 : 5 < t.length) (h4 : 0 < wkdI (t.take 3)) (h5 : (t.take 5).drop 3 = [62, 61]) : dayR t = (if numE (t.drop 5) 1 31 = 0 then (2, numV (t.drop 5) 1 31, wkdI (t.take 3), 0) else (0, 0, 0, numE (t.drop 5) 1 31)) := by
  unfold dayR; rw [if_neg (fun h => h2 h.2), if_pos ⟨h3, h4⟩]; exact if_pos h5
theorem day_before {t : List UInt8} (h2 : t.take 5 ≠ lastL) (h3 : 5 < t.length) (h4 : 0 < wkdI (t.take 3)) (h5 : (t.take 5).drop 3 = [60, 61]) : dayR t = (if numE (t.drop 5) 1 31 = 0 then (3, numV (t.drop 5) 1 31, wkdI (t.take 3), 0) else (0, 0, 0, numE (t.drop 5) 1 31)) := by
  unfold dayR; rw [if_neg (fun h => h2 h.2), if_pos ⟨h3, h4⟩, if_neg (by rw [h5]; decide)]; exact if_pos h5
theorem day_odd {t : List UInt8} (h2 : t.take 5 ≠ lastL) (h3 : 5 < t.length) (h4 : 0 < wkdI (t.take 3)) (h5 : (t.take 5).drop 3 ≠ [62, 61]) (h6 : (t.take 5).drop 3 ≠ [60, 61]) : dayR t = (0, 0, 0, 2) := by
  unfold dayR; rw [if_neg (fun h => h2 h.2), if_pos ⟨h3, h4⟩, if_neg h5]; exact if_neg h6
theorem day_date {t : List UInt8} (h : ¬ (5 ≤ t.length ∧ t.take 5 = lastL)) (h2 : ¬ (5 < t.length ∧ 0 < wkdI (t.take 3))) : dayR t = (if numE t 1 31 = 0 then (0, numV t 1 31, 0, 0) else (0, 0, 0, numE t 1 31)) := by
  unfold dayR; rw [if_neg h]; exact if_neg h2
end Go.Proofs.YtafecnlaodgmkaaGreatDoor
namespace Go.Proofs.YtafecnlaodgmkaaGreatDoor
set_option linter.unusedVariables false
set_option linter.unusedSimpArgs false
theorem dgB_dgt {p : Int} (h0 : 0 ≤ p) (h9 : p ≤ 9) : dgB (dgt p) = true := by rw [dgB_iff, dgt_nat h0 h9]; omega
def nmL (n : Int) : List UInt8 := if 10 ≤ n then [dgt (n / 10), dgt (n % 10)] else [dgt (n % 10)]
theorem wk_fin : ∀ w : Fin 7, ∀ n : Fin 31, dayR (wkS ((w.val : Int) + 1) ++ [62, 61] ++ nmL ((n.val : Int) + 1)) = (2, (n.val : Int) + 1, (w.val : Int) + 1, 0) ∧ dayR (wkS ((w.val : Int) + 1) ++ [60, 61] ++ nmL ((n.val : Int) + 1)) = (3, (n.val : Int) + 1, (w.val : Int) + 1, 0) := by decide +kernel
theorem nm_fin : ∀ n : Fin 31, dayR (nmL ((n.val : Int) + 1)) = (0, (n.val : Int) + 1, 0, 0) := by decide +kernel
theorem last_fin : ∀ w : Fin 7, dayR (lastL ++ wkS ((w.val : Int) + 1)) = (1, 0, (w.val : Int) + 1, 0) := by decide +kernel
theorem wk_days {w n : Int} (w1 : 1 ≤ w) (w7 : w ≤ 7) (n1 : 1 ≤ n) (n31 : n ≤ 31) : dayR (lastL ++ wkS w) = (1, 0, w, 0) ∧ dayR (wkS w ++ [62, 61] ++ nmL n) = (2, n, w, 0) ∧ dayR (wkS w ++ [60, 61] ++ nmL n) = (3, n, w, 0) ∧ dayR (nmL n) = (0, n, 0, 0) := by
  have ew : (((⟨(w - 1).toNat, by omega⟩ : Fin 7).val : Nat) : Int) + 1 = w := by simp; omega
  have en : (((⟨(n - 1).toNat, by omega⟩ : Fin 31).val : Nat) : Int) + 1 = n := by simp; omega
  have a := wk_fin ⟨(w - 1).toNat, by omega⟩ ⟨(n - 1).toNat, by omega⟩
  have b := nm_fin ⟨(n - 1).toNat, by omega⟩
  have c := last_fin ⟨(w - 1).toNat, by omega⟩
  rw [ew, en] at a
  rw [en] at b
  rw [ew] at c
  exact ⟨c, a.1, a.2, b⟩
end Go.Proofs.YtafecnlaodgmkaaGreatDoor
