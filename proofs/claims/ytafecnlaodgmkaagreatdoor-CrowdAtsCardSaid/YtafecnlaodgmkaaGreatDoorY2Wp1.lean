/- Several texts in one: WpA, WpB, WpD, WpC, WpE, WpF, WpT. -/
import Derived.Test.YtafecnlaodgmkaaGreatDoorY2Sm
import Derived.Test.YtafecnlaodgmkaaGreatDoorY2Pkg1
import Derived.Test.YtafecnlaodgmkaaGreatDoorY2Ref1
import Derived.Test.YtafecnlaodgmkaaGreatDoorShelf
import Derived.Test.YtafecnlaodgmkaaGreatDoorY2Pkg2
import Derived.Test.YtafecnlaodgmkaaGreatDoorY2Inst1
import Derived.Test.YtafecnlaodgmkaaGreatDoorY2RowS1
import Derived.Test.YtafecnlaodgmkaaGreatDoorY2Clk1
import Derived.Test.YtafecnlaodgmkaaGreatDoorY2Civ1
import Derived.Test.YtafecnlaodgmkaaGreatDoorY2Ct1
import Derived.Test.YtafecnlaodgmkaaGreatDoorY2Wrd1
import Derived.Test.YtafecnlaodgmkaaGreatDoorY2Tab1
import Derived.Test.YtafecnlaodgmkaaGreatDoorY2Shaped1
import Derived.Lib.IndexMore
import Derived.LoopN
import Derived.Lib.Small
import Derived.Outline
import Derived.Deep.Cut
import Derived.Deep.RegionHeld3
import Derived.OwnWalk
import Derived.BigQuiet
import Derived.Lib.Zigzag
namespace Go.Proofs.YtafecnlaodgmkaaGreatDoor
set_option linter.unusedVariables false
set_option linter.unusedSimpArgs false
open Go.ChangeShapes Go.WideShapes Go.ChangeAt Go.RowKit
theorem dval_pos {t : List UInt8} (h : t.all dgB = true) (h1 : 1 ≤ t.length) (hz : zero1 t = false) : 0 < dval t := by
  match t, h1 with
  | c :: r, _ =>
    have hc : dgB c = true := by simp at h; exact h.1
    rw [dgB_iff] at hc
    have hz2 : c.toNat ≠ 48 := by unfold zero1 at hz; simpa using hz
    have key : ∀ (r : List UInt8) (a : Nat), 0 < a → 0 < r.foldl (fun a c => 10 * a + (c.toNat - 48)) a := by
      intro r
      induction r with
      | nil => exact fun a h => h
      | cons d r ih => exact fun a h => ih _ (by show 0 < 10 * a + (d.toNat - 48); omega)
    unfold dval
    exact key r _ (by show 0 < 10 * 0 + (c.toNat - 48); omega)
end Go.Proofs.YtafecnlaodgmkaaGreatDoor
namespace Go.Proofs.YtafecnlaodgmkaaGreatDoor
set_option linter.unusedVariables false
set_option linter.unusedSimpArgs false
open Go.ChangeShapes Go.WideShapes Go.ChangeAt Go.RowKit
@[irreducible] def dgN (c : Nat) : Bool := decide (48 ≤ c) && decide (c ≤ 57)
theorem dgN_yes {c : Nat} (h : 48 ≤ c) (h2 : c ≤ 57) : dgN c = true := by unfold dgN; simp; omega
theorem dgN_no {c : Nat} (h : c < 48 ∨ 57 < c) : dgN c = false := by unfold dgN; simp; omega
theorem dgB_dgN (c : UInt8) : dgB c = dgN c.toNat := by unfold dgB dgN; rfl
theorem nam_of (c : Nat) : namN c = (letN c || dgN c || c == 95 || c == 45 || c == 47) := by unfold namN dgN; rfl
set_option maxHeartbeats 1600000 in
theorem pDigit_p (c : Nat) (w : World) : Calls Tryz.prog 135 #[.int .u8 (c : Int)] w fun e w' => e = .returned (.bool (dgN c)) ∧ w = w' := by
  have hc : c < 48 ∨ (48 ≤ c ∧ c ≤ 57) ∨ 57 < c := by omega
  rcases hc with h | ⟨h, h2⟩ | h
  · have E := Lib.hid (dgN_no (Or.inl h))
    go_enter Tryz.func135, Tryz.ntmps135
    go_wp2
    go_ret
    exact ⟨by rw [E.out]; first | rfl | (simp; omega), rfl⟩
  · have E := Lib.hid (dgN_yes h h2)
    go_enter Tryz.func135, Tryz.ntmps135
    go_wp2
    go_ret
    exact ⟨by rw [E.out]; first | rfl | (simp; omega), rfl⟩
  · have E := Lib.hid (dgN_no (Or.inr h))
    go_enter Tryz.func135, Tryz.ntmps135
    go_wp2
    go_ret
    exact ⟨by rw [E.out]; first | rfl | (simp; omega), rfl⟩
set_option maxHeartbeats 1600000 in
theorem pLetter_p (c : Nat) (w : World) : Calls Tryz.prog 134 #[.int .u8 (c : Int)] w fun e w' => e = .returned (.bool (letN c)) ∧ w = w' := by
  rcases let_cases c with ⟨h, E⟩ | ⟨⟨h, h2⟩, E⟩ | ⟨⟨h, h2⟩, E⟩ | ⟨⟨h, h2⟩, E⟩ | ⟨h, E⟩
  all_goals
    replace E := Lib.hid E
    go_enter Tryz.func134, Tryz.ntmps134
    go_wp2
    go_ret
    exact ⟨by rw [E.out]; first | rfl | (simp; omega), rfl⟩
set_option maxHeartbeats 1600000 in
theorem pNameByte_p (c : Nat) (w : World) : Calls Tryz.prog 113 #[.int .u8 (c : Int)] w fun e w' => e = .returned (.bool (namN c)) ∧ w = w' := by
  have H := fun w => pLetter_p c w
  have H2 := fun w => pDigit_p c w
  have E := nam_of c
  have q1 : ((c : Int) == 95) = (c == 95) := by rw [Bool.eq_iff_iff]; simp; omega
  have q2 : ((c : Int) == 45) = (c == 45) := by rw [Bool.eq_iff_iff]; simp; omega
  have q3 : ((c : Int) == 47) = (c == 47) := by rw [Bool.eq_iff_iff]; simp; omega
  generalize (c == 95) = x1 at *
  generalize (c == 45) = x2 at *
  generalize (c == 47) = x3 at *
  cases h1 : letN c
  · cases h2 : dgN c
    · rw [h1] at H
      rw [h2] at H2
      rw [h1, h2] at E
      replace H := Lib.hid H
      replace H2 := Lib.hid H2
      replace h1 := Lib.hid h1
      replace h2 := Lib.hid h2
      replace E := Lib.hid E
      cases x1 <;> cases x2 <;> cases x3
      all_goals
        go_enter Tryz.func113, Tryz.ntmps113
        go_wp2_with fail
        refine (H.out _).mono ?_
        rintro e w1 ⟨rfl, rfl⟩
        go_wp2_with fail
        refine (H2.out _).mono ?_
        rintro e w1 ⟨rfl, rfl⟩
        go_wp2
        go_ret
        exact ⟨by rw [E.out]; rfl, rfl⟩
    · rw [h1] at H
      rw [h2] at H2
      rw [h1, h2] at E
      replace H := Lib.hid H
      replace H2 := Lib.hid H2
      replace h1 := Lib.hid h1
      replace h2 := Lib.hid h2
      replace E := Lib.hid E
      clear q1 q2 q3
      go_enter Tryz.func113, Tryz.ntmps113
      go_wp2_with fail
      refine (H.out _).mono ?_
      rintro e w1 ⟨rfl, rfl⟩
      go_wp2_with fail
      refine (H2.out _).mono ?_
      rintro e w1 ⟨rfl, rfl⟩
      go_wp2
      go_ret
      exact ⟨by rw [E.out]; rfl, rfl⟩
  · rw [h1] at H
    rw [h1] at E
    replace H := Lib.hid H
    replace h1 := Lib.hid h1
    replace E := Lib.hid E
    clear q1 q2 q3 H2
    go_enter Tryz.func113, Tryz.ntmps113
    go_wp2_with fail
    refine (H.out _).mono ?_
    rintro e w1 ⟨rfl, rfl⟩
    go_wp2
    go_ret
    exact ⟨by rw [E.out]; rfl, rfl⟩
def mdA (p : Nat → Bool) (L : List UInt8) : Bool := L.all (fun c => p c.toNat)
@[irreducible] def mdE (p : Nat → Bool) (L : List UInt8) (n : Int) : Int := if 1 ≤ L.length ∧ (L.length : Int) ≤ n ∧ mdA p L = true then 0 else 2
theorem mdE_ok {p : Nat → Bool} {L : List UInt8} {n : Int} (h : 1 ≤ L.length ∧ (L.length : Int) ≤ n ∧ mdA p L = true) : mdE p L n = 0 := by unfold mdE; exact if_pos h
theorem mdE_no {p : Nat → Bool} {L : List UInt8} {n : Int} (h : ¬ (1 ≤ L.length ∧ (L.length : Int) ≤ n ∧ mdA p L = true)) : mdE p L n = 2 := by unfold mdE; exact if_neg h
set_option maxHeartbeats 1600000 in
set_option maxRecDepth 100000 in
theorem pMade_digit (L : List UInt8) (n : Int) (hL : L.length ≤ 9223372036854775807) (w : World) : Calls Tryz.prog 112 #[.string (bs L), .int .i64 n, .func (.func 135) #[] #[]] w fun e w' => e = .returned (.int .i64 (mdE dgN L n)) ∧ w = w' := by
  have hS := bs_size L
  have H := Lib.hid pDigit_p
  by_cases h1 : L.length < 1
  · have E := Lib.hid (mdE_no (p := dgN) (L := L) (n := n) (by omega))
    have q1 : decide ((L.length : Int) < 1) = true := decide_eq_true (by omega)
    go_enter Tryz.func112, Tryz.ntmps112
    go_wp2
    go_ret
    exact ⟨by rw [E.out]; try rfl, rfl⟩
  by_cases h2 : n < (L.length : Int)
  · have E := Lib.hid (mdE_no (p := dgN) (L := L) (n := n) (by omega))
    have q1 : decide ((L.length : Int) < 1) = false := decide_eq_false (by omega)
    have q2 : decide (n < (L.length : Int)) = true := decide_eq_true h2
    go_enter Tryz.func112, Tryz.ntmps112
    go_wp2
    go_ret
    exact ⟨by rw [E.out]; try rfl, rfl⟩
  have q1 : decide ((L.length : Int) < 1) = false := decide_eq_false (by omega)
  have q2 : decide (n < (L.length : Int)) = false := decide_eq_false h2
  have F := Lib.hid (fun h => mdE_ok (p := dgN) (L := L) (n := n) ⟨by omega, by omega, h⟩)
  have F2 := Lib.hid (fun h => mdE_no (p := dgN) (L := L) (n := n) (fun x => absurd (x.2.2) h))
  clear h2
  go_enter Tryz.func112, Tryz.ntmps112
  go_wp2
  go_loop [19] (fun i => ∃ k : Nat, k ≤ L.length ∧ i = .int .i64 (k : Int) ∧ mdA dgN (L.take k) = true) (fun i => L.length - (intOf i).toNat)
  case atStart => exact ⟨0, by omega, rfl, rfl⟩
  case round =>
    obtain ⟨k, hk, rfl, hall⟩ := hrel
    by_cases hlt : k < L.length
    · obtain ⟨c, hc⟩ : ∃ c : Nat, L[k].toNat = c := ⟨_, rfl⟩
      have hb := byte_bs L k hlt (by rw [hS]; exact hlt) hc
      have H2 := H.out c
      cases hl : dgN c
      · have E : Hid (mdE dgN L n = 2) := Lib.hid (F2.out (by
          have e : mdA dgN L = false := all_stop hlt (by rw [hc]; exact hl)
          rw [e]; decide))
        rw [hl] at H2
        replace H2 := Lib.hid H2
        replace hl := Lib.hid hl
        replace hc := Lib.hid hc
        replace hall := Lib.hid hall
        go_wp2_with fail
        refine (H2.out _).mono ?_
        rintro e w1 ⟨rfl, rfl⟩
        go_wp2
        go_ret
        exact ⟨by rw [E.out]; try rfl, rfl⟩
      · have E : Hid (mdA dgN (L.take (k + 1)) = true) := Lib.hid (all_take hlt hall (by rw [hc]; exact hl))
        rw [hl] at H2
        replace H2 := Lib.hid H2
        replace hl := Lib.hid hl
        replace hc := Lib.hid hc
        replace hall := Lib.hid hall
        go_wp2_with fail
        refine (H2.out _).mono ?_
        rintro e w1 ⟨rfl, rfl⟩
        go_wp2
        go_round
        case rel => exact ⟨k + 1, by omega, by go_num, E.out⟩
        case measure => simp [intOf]; omega
    · obtain rfl : k = L.length := by omega
      rw [List.take_length] at hall
      have E := Lib.hid (F.out hall)
      clear H
      replace hall := Lib.hid hall
      go_wp2
      go_ret
      exact ⟨by rw [E.out]; try rfl, rfl⟩
set_option maxHeartbeats 1600000 in
set_option maxRecDepth 100000 in
theorem pMade_letter (L : List UInt8) (n : Int) (hL : L.length ≤ 9223372036854775807) (w : World) : Calls Tryz.prog 112 #[.string (bs L), .int .i64 n, .func (.func 134) #[] #[]] w fun e w' => e = .returned (.int .i64 (mdE letN L n)) ∧ w = w' := by
  have hS := bs_size L
  have H := Lib.hid pLetter_p
  by_cases h1 : L.length < 1
  · have E := Lib.hid (mdE_no (p := letN) (L := L) (n := n) (by omega))
    have q1 : decide ((L.length : Int) < 1) = true := decide_eq_true (by omega)
    go_enter Tryz.func112, Tryz.ntmps112
    go_wp2
    go_ret
    exact ⟨by rw [E.out]; try rfl, rfl⟩
  by_cases h2 : n < (L.length : Int)
  · have E := Lib.hid (mdE_no (p := letN) (L := L) (n := n) (by omega))
    have q1 : decide ((L.length : Int) < 1) = false := decide_eq_false (by omega)
    have q2 : decide (n < (L.length : Int)) = true := decide_eq_true h2
    go_enter Tryz.func112, Tryz.ntmps112
    go_wp2
    go_ret
    exact ⟨by rw [E.out]; try rfl, rfl⟩
  have q1 : decide ((L.length : Int) < 1) = false := decide_eq_false (by omega)
  have q2 : decide (n < (L.length : Int)) = false := decide_eq_false h2
  have F := Lib.hid (fun h => mdE_ok (p := letN) (L := L) (n := n) ⟨by omega, by omega, h⟩)
  have F2 := Lib.hid (fun h => mdE_no (p := letN) (L := L) (n := n) (fun x => absurd (x.2.2) h))
  clear h2
  go_enter Tryz.func112, Tryz.ntmps112
  go_wp2
  go_loop [19] (fun i => ∃ k : Nat, k ≤ L.length ∧ i = .int .i64 (k : Int) ∧ mdA letN (L.take k) = true) (fun i => L.length - (intOf i).toNat)
  case atStart => exact ⟨0, by omega, rfl, rfl⟩
  case round =>
    obtain ⟨k, hk, rfl, hall⟩ := hrel
    by_cases hlt : k < L.length
    · obtain ⟨c, hc⟩ : ∃ c : Nat, L[k].toNat = c := ⟨_, rfl⟩
      have hb := byte_bs L k hlt (by rw [hS]; exact hlt) hc
      have H2 := H.out c
      cases hl : letN c
      · have E : Hid (mdE letN L n = 2) := Lib.hid (F2.out (by
          have e : mdA letN L = false := all_stop hlt (by rw [hc]; exact hl)
          rw [e]; decide))
        rw [hl] at H2
        replace H2 := Lib.hid H2
        replace hl := Lib.hid hl
        replace hc := Lib.hid hc
        replace hall := Lib.hid hall
        go_wp2_with fail
        refine (H2.out _).mono ?_
        rintro e w1 ⟨rfl, rfl⟩
        go_wp2
        go_ret
        exact ⟨by rw [E.out]; try rfl, rfl⟩
      · have E : Hid (mdA letN (L.take (k + 1)) = true) := Lib.hid (all_take hlt hall (by rw [hc]; exact hl))
        rw [hl] at H2
        replace H2 := Lib.hid H2
        replace hl := Lib.hid hl
        replace hc := Lib.hid hc
        replace hall := Lib.hid hall
        go_wp2_with fail
        refine (H2.out _).mono ?_
        rintro e w1 ⟨rfl, rfl⟩
        go_wp2
        go_round
        case rel => exact ⟨k + 1, by omega, by go_num, E.out⟩
        case measure => simp [intOf]; omega
    · obtain rfl : k = L.length := by omega
      rw [List.take_length] at hall
      have E := Lib.hid (F.out hall)
      clear H
      replace hall := Lib.hid hall
      go_wp2
      go_ret
      exact ⟨by rw [E.out]; try rfl, rfl⟩
set_option maxHeartbeats 1600000 in
set_option maxRecDepth 100000 in
theorem pMade_nameByte (L : List UInt8) (n : Int) (hL : L.length ≤ 9223372036854775807) (w : World) : Calls Tryz.prog 112 #[.string (bs L), .int .i64 n, .func (.func 113) #[] #[]] w fun e w' => e = .returned (.int .i64 (mdE namN L n)) ∧ w = w' := by
  have hS := bs_size L
  have H := Lib.hid pNameByte_p
  by_cases h1 : L.length < 1
  · have E := Lib.hid (mdE_no (p := namN) (L := L) (n := n) (by omega))
    have q1 : decide ((L.length : Int) < 1) = true := decide_eq_true (by omega)
    go_enter Tryz.func112, Tryz.ntmps112
    go_wp2
    go_ret
    exact ⟨by rw [E.out]; try rfl, rfl⟩
  by_cases h2 : n < (L.length : Int)
  · have E := Lib.hid (mdE_no (p := namN) (L := L) (n := n) (by omega))
    have q1 : decide ((L.length : Int) < 1) = false := decide_eq_false (by omega)
    have q2 : decide (n < (L.length : Int)) = true := decide_eq_true h2
    go_enter Tryz.func112, Tryz.ntmps112
    go_wp2
    go_ret
    exact ⟨by rw [E.out]; try rfl, rfl⟩
  have q1 : decide ((L.length : Int) < 1) = false := decide_eq_false (by omega)
  have q2 : decide (n < (L.length : Int)) = false := decide_eq_false h2
  have F := Lib.hid (fun h => mdE_ok (p := namN) (L := L) (n := n) ⟨by omega, by omega, h⟩)
  have F2 := Lib.hid (fun h => mdE_no (p := namN) (L := L) (n := n) (fun x => absurd (x.2.2) h))
  clear h2
  go_enter Tryz.func112, Tryz.ntmps112
  go_wp2
  go_loop [19] (fun i => ∃ k : Nat, k ≤ L.length ∧ i = .int .i64 (k : Int) ∧ mdA namN (L.take k) = true) (fun i => L.length - (intOf i).toNat)
  case atStart => exact ⟨0, by omega, rfl, rfl⟩
  case round =>
    obtain ⟨k, hk, rfl, hall⟩ := hrel
    by_cases hlt : k < L.length
    · obtain ⟨c, hc⟩ : ∃ c : Nat, L[k].toNat = c := ⟨_, rfl⟩
      have hb := byte_bs L k hlt (by rw [hS]; exact hlt) hc
      have H2 := H.out c
      cases hl : namN c
      · have E : Hid (mdE namN L n = 2) := Lib.hid (F2.out (by
          have e : mdA namN L = false := all_stop hlt (by rw [hc]; exact hl)
          rw [e]; decide))
        rw [hl] at H2
        replace H2 := Lib.hid H2
        replace hl := Lib.hid hl
        replace hc := Lib.hid hc
        replace hall := Lib.hid hall
        go_wp2_with fail
        refine (H2.out _).mono ?_
        rintro e w1 ⟨rfl, rfl⟩
        go_wp2
        go_ret
        exact ⟨by rw [E.out]; try rfl, rfl⟩
      · have E : Hid (mdA namN (L.take (k + 1)) = true) := Lib.hid (all_take hlt hall (by rw [hc]; exact hl))
        rw [hl] at H2
        replace H2 := Lib.hid H2
        replace hl := Lib.hid hl
        replace hc := Lib.hid hc
        replace hall := Lib.hid hall
        go_wp2_with fail
        refine (H2.out _).mono ?_
        rintro e w1 ⟨rfl, rfl⟩
        go_wp2
        go_round
        case rel => exact ⟨k + 1, by omega, by go_num, E.out⟩
        case measure => simp [intOf]; omega
    · obtain rfl : k = L.length := by omega
      rw [List.take_length] at hall
      have E := Lib.hid (F.out hall)
      clear H
      replace hall := Lib.hid hall
      go_wp2
      go_ret
      exact ⟨by rw [E.out]; try rfl, rfl⟩
set_option maxHeartbeats 1600000 in
set_option maxRecDepth 100000 in
theorem pDigits_p (L : List UInt8) (h : L.all dgB = true) (hL : L.length ≤ 17) (w : World) : Calls Tryz.prog 158 #[.string (bs L)] w fun e w' => e = .returned (.int .i64 (dval L : Int)) ∧ w = w' := by
  have hS := bs_size L
  replace h := Lib.hid h
  go_enter Tryz.func158, Tryz.ntmps158
  go_wp2
  go_loop [3, 7] (fun v i => ∃ k : Nat, k ≤ L.length ∧ i = .int .i64 (k : Int) ∧ v = .int .i64 (dval (L.take k) : Int)) (fun _ i => L.length - (intOf i).toNat)
  case atStart => exact ⟨0, by omega, rfl, rfl⟩
  case round =>
    obtain ⟨k, hk, rfl, rfl⟩ := hrel
    by_cases hlt : k < L.length
    · obtain ⟨c, hc⟩ : ∃ c : Nat, L[k].toNat = c := ⟨_, rfl⟩
      have hb := byte_bs L k hlt (by rw [hS]; exact hlt) hc
      have hd := (dgB_iff _).1 (List.all_eq_true.1 h.out _ (List.getElem_mem hlt))
      rw [hc] at hd
      obtain ⟨h48, h57⟩ := hd
      have hall : (L.take k).all dgB = true := by
        rw [List.all_eq_true]; exact fun x hx => List.all_eq_true.1 h.out x (List.mem_of_mem_take hx)
      have hd1 := dval_lt (L.take k) hall
      rw [show (L.take k).length = k by simp; omega] at hd1
      have hd3 := pow_le18 (n := k) (by omega)
      have hds := dval_snoc (L.take k) L[k]
      rw [← take_snoc hlt, hc] at hds
      replace hc := Lib.hid hc
      replace hds := Lib.hid hds
      replace hall := Lib.hid hall
      generalize dval (L.take k) = v at *
      go_wp2
      go_round
      case rel => exact ⟨k + 1, by omega, by go_num, by rw [hds.out]; go_num⟩
      case measure => simp [intOf]; omega
    · obtain rfl : k = L.length := by omega
      rw [List.take_length]
      go_wp2
      go_ret
      exact ⟨by first | rfl | simp, rfl⟩
@[irreducible] def tuV (n : Int) (b : Bool) : Int := if b = true then (if n = 0 then 0 else -n) else n
@[irreducible] def tuE (n : Int) (b : Bool) : Int := if b = true ∧ n = 0 then 2 else 0
theorem tu_zero : tuV 0 true = 0 ∧ tuE 0 true = 2 := by unfold tuV tuE; exact ⟨rfl, rfl⟩
theorem tu_neg {n : Int} (h : n ≠ 0) : tuV n true = -n ∧ tuE n true = 0 := by unfold tuV tuE; exact ⟨by rw [if_pos rfl]; exact if_neg h, if_neg (fun x => h x.2)⟩
theorem tu_pos (n : Int) : tuV n false = n ∧ tuE n false = 0 := by unfold tuV tuE; exact ⟨rfl, rfl⟩
set_option maxHeartbeats 1600000 in
theorem pTurned_p (n : Int) (b : Bool) (h0 : 0 ≤ n) (h1 : n ≤ 1000000) (w : World) : Calls Tryz.prog 157 #[.int .i64 n, .bool b] w fun e w' => e = .returned (.tuple #[.int .i64 (tuV n b), .int .i64 (tuE n b)]) ∧ w = w' := by
  cases b
  · have E := Lib.hid (tu_pos n)
    go_enter Tryz.func157, Tryz.ntmps157
    go_wp2
    go_ret2
    exact ⟨by rw [E.out.1, E.out.2]; try rfl, rfl⟩
  · by_cases h : n = 0
    · subst h
      have E := Lib.hid tu_zero
      go_enter Tryz.func157, Tryz.ntmps157
      go_wp2
      go_ret2
      exact ⟨by rw [E.out.1, E.out.2]; try rfl, rfl⟩
    · have E := Lib.hid (tu_neg h)
      have q : (n == 0) = false := by rw [beq_eq_false_iff_ne]; exact h
      replace h := Lib.hid h
      go_enter Tryz.func157, Tryz.ntmps157
      go_wp2
      go_ret2
      exact ⟨by rw [E.out.1, E.out.2]; first | rfl | go_num, rfl⟩
@[irreducible] def wiV (n lo hi : Int) : Int := if n < lo ∨ hi < n then 0 else n
@[irreducible] def wiE (n lo hi : Int) : Int := if n < lo ∨ hi < n then 8 else 0
theorem wi_no {n lo hi : Int} (h : n < lo ∨ hi < n) : wiV n lo hi = 0 ∧ wiE n lo hi = 8 := by unfold wiV wiE; exact ⟨if_pos h, if_pos h⟩
theorem wi_ok {n lo hi : Int} (h : ¬ (n < lo ∨ hi < n)) : wiV n lo hi = n ∧ wiE n lo hi = 0 := by unfold wiV wiE; exact ⟨if_neg h, if_neg h⟩
set_option maxHeartbeats 1600000 in
theorem pWithin_p (n lo hi : Int) (w : World) : Calls Tryz.prog 159 #[.int .i64 n, .int .i64 lo, .int .i64 hi] w fun e w' => e = .returned (.tuple #[.int .i64 (wiV n lo hi), .int .i64 (wiE n lo hi)]) ∧ w = w' := by
  by_cases h1 : n < lo
  · have E := Lib.hid (wi_no (n := n) (lo := lo) (hi := hi) (Or.inl h1))
    have q : decide (n < lo) = true := decide_eq_true h1
    go_enter Tryz.func159, Tryz.ntmps159
    go_wp2
    go_ret2
    exact ⟨by rw [E.out.1, E.out.2]; try rfl, rfl⟩
  · have q : decide (n < lo) = false := decide_eq_false h1
    by_cases h2 : hi < n
    · have E := Lib.hid (wi_no (n := n) (lo := lo) (hi := hi) (Or.inr h2))
      have q2 : decide (hi < n) = true := decide_eq_true h2
      go_enter Tryz.func159, Tryz.ntmps159
      go_wp2
      go_ret2
      exact ⟨by rw [E.out.1, E.out.2]; try rfl, rfl⟩
    · have E := Lib.hid (wi_ok (n := n) (lo := lo) (hi := hi) (by omega))
      have q2 : decide (hi < n) = false := decide_eq_false h2
      go_enter Tryz.func159, Tryz.ntmps159
      go_wp2
      go_ret2
      exact ⟨by rw [E.out.1, E.out.2]; try rfl, rfl⟩
theorem dwn {B : Nat} {a w : World} (h : Below B a w) (n : Nat) : Below B a (w.drewN n) := ⟨h.os, h.tape, h.output, h.size, h.block⟩
theorem lit_of (a : Array UInt8) (l : List UInt8) (h : a.toList = l) : bs l = (⟨a⟩ : ByteArray) := (bs_lit l a h).symm
set_option maxHeartbeats 1600000 in
set_option maxRecDepth 100000 in
theorem hasPre_p (L P : List UInt8) (w : World) : Calls Tryz.prog 161 #[.string (bs L), .string (bs P)] w fun e w' => e = .returned (.bool (decide (L.take P.length = P))) ∧ w = w' := by
  have hS := bs_size L
  have hS2 := bs_size P
  by_cases h : L.length < P.length
  · have E : Hid (decide (L.take P.length = P) = false) := Lib.hid (decide_eq_false (fun e => by
      have e2 := congrArg List.length e
      rw [List.length_take] at e2
      omega))
    have q : decide ((P.length : Int) ≤ (L.length : Int)) = false := decide_eq_false (by omega)
    go_enter Tryz.func161, Tryz.ntmps161
    go_wp2
    go_ret
    exact ⟨by rw [E.out]; try rfl, rfl⟩
  · have hs := fun W => slice_upto L P.length (by omega) (B := (P.length : Int)) rfl W
    have q : decide ((P.length : Int) ≤ (L.length : Int)) = true := decide_eq_true (by omega)
    have e1 := bs_list (L.take P.length)
    have e2 := bs_list P
    have E : Hid (decide (L.take P.length = P) = (L.take P.length == P)) := Lib.hid (by rw [Bool.eq_iff_iff]; simp)
    generalize L.take P.length = T at *
    go_enter Tryz.func161, Tryz.ntmps161
    go_wp2
    go_ret
    exact ⟨by rw [E.out]; try rfl, rfl⟩
def cpL (L P : List UInt8) : List UInt8 := if L.take P.length = P then L.drop P.length else L
set_option maxHeartbeats 1600000 in
set_option maxRecDepth 100000 in
theorem cutPre_p (L P : List UInt8) (w : World) : Calls Tryz.prog 154 #[.string (bs L), .string (bs P)] w fun e w' => e = .returned (.tuple #[.string (bs (cpL L P)), .bool (decide (L.take P.length = P))]) ∧ w = w' := by
  have hS := bs_size L
  have hS2 := bs_size P
  have H := fun w => hasPre_p L P w
  by_cases h : L.take P.length = P
  · have hle : P.length ≤ L.length := by
      have e2 := congrArg List.length h
      rw [List.length_take] at e2
      omega
    have hs := fun W => slice_from L P.length hle (A := (P.length : Int)) rfl W
    have E : Hid (cpL L P = L.drop P.length ∧ decide (L.take P.length = P) = true) := Lib.hid ⟨if_pos h, decide_eq_true h⟩
    rw [E.out.2] at H
    replace H := Lib.hid H
    replace h := Lib.hid h
    go_enter Tryz.func154, Tryz.ntmps154
    go_wp2_with fail
    refine (H.out _).mono ?_
    rintro e w1 ⟨rfl, rfl⟩
    go_wp2
    go_ret2
    exact ⟨by rw [E.out.1, E.out.2]; try rfl, rfl⟩
  · have E : Hid (cpL L P = L ∧ decide (L.take P.length = P) = false) := Lib.hid ⟨if_neg h, decide_eq_false h⟩
    rw [E.out.2] at H
    replace H := Lib.hid H
    replace h := Lib.hid h
    go_enter Tryz.func154, Tryz.ntmps154
    go_wp2_with fail
    refine (H.out _).mono ?_
    rintro e w1 ⟨rfl, rfl⟩
    go_wp2
    go_ret2
    exact ⟨by rw [E.out.1, E.out.2]; try rfl, rfl⟩
set_option maxHeartbeats 1600000 in
theorem sCutPre_p (L P : List UInt8) (w : World) : Calls Tryz.prog 146 #[.string (bs L), .string (bs P)] w fun e w' => e = .returned (.tuple #[.string (bs (cpL L P)), .bool (decide (L.take P.length = P))]) ∧ w = w' := by
  have H := Lib.hid (fun w => cutPre_p L P w)
  go_enter Tryz.func146, Tryz.ntmps146
  go_wp2_with fail
  refine (H.out _).mono ?_
  rintro e w1 ⟨rfl, rfl⟩
  go_wp2
  go_ret2
  exact ⟨by first | rfl | simp, rfl⟩
theorem neg_take (L : List UInt8) : decide (L.take 1 = [45]) = negB L ∧ cpL L [45] = bodyN L := by
  have key : decide (L.take 1 = [45]) = negB L := by
    match L with
    | [] => rfl
    | c :: r =>
      unfold negB
      rw [Bool.eq_iff_iff, decide_eq_true_eq, beq_iff_eq]
      simp
      exact ⟨fun h => by rw [h]; rfl, fun h => UInt8.toNat_inj.1 h⟩
  refine ⟨key, ?_⟩
  unfold cpL bodyN
  cases h : negB L
  · rw [h] at key; rw [if_neg (by simpa using key)]; exact (if_neg (by decide)).symm
  · rw [h] at key; rw [if_pos (by simpa using key)]; exact (if_pos rfl).symm
theorem cutNeg_p (L : List UInt8) (w : World) : Calls Tryz.prog 146 #[.string (bs L), .string ⟨#[45]⟩] w fun e w' => e = .returned (.tuple #[.string (bs (bodyN L)), .bool (negB L)]) ∧ w = w' := by
  have H := sCutPre_p L [45] w
  rw [lit_of #[45] [45] rfl] at H
  rw [(neg_take L).2, show decide (L.take ([45] : List UInt8).length = [45]) = negB L from (neg_take L).1] at H
  exact H
theorem cutLast_p (L : List UInt8) (w : World) : Calls Tryz.prog 146 #[.string (bs L), .string ⟨#[108, 97, 115, 116, 45]⟩] w fun e w' => e = .returned (.tuple #[.string (bs (cpL L lastL)), .bool (decide (L.take 5 = lastL))]) ∧ w = w' := by
  have H := sCutPre_p L lastL w
  rw [lit_of #[108, 97, 115, 116, 45] lastL rfl] at H
  exact H
end Go.Proofs.YtafecnlaodgmkaaGreatDoor
namespace Go.Proofs.YtafecnlaodgmkaaGreatDoor
set_option linter.unusedVariables false
set_option linter.unusedSimpArgs false
open Go.ChangeShapes Go.WideShapes Go.ChangeAt Go.RowKit
theorem cut_none {t s : List UInt8} (h : Lib.index t s = -1) : Lib.cut t s = (t, [], false) := by unfold Lib.cut; rw [h]; rfl
theorem cut_some {t s : List UInt8} {i : Nat} (h : Lib.index t s = (i : Int)) : Lib.cut t s = (t.take i, t.drop (i + s.length), true) := by
  unfold Lib.cut; rw [h, if_pos (by omega)]; rfl
theorem occ_at {t : List UInt8} {a b : UInt8} {i : Nat} (h : Lib.occAt t [a, b] i = true) : t[i]? = some a ∧ t[i + 1]? = some b ∧ i + 2 ≤ t.length := by
  unfold Lib.occAt at h
  obtain ⟨r, hr⟩ := List.isPrefixOf_iff_prefix.1 h
  have h0 : (t.drop i)[0]? = some a := by rw [← hr]; rfl
  have h1 : (t.drop i)[1]? = some b := by rw [← hr]; rfl
  have hl : (t.drop i).length = 2 + r.length := by rw [← hr]; simp; omega
  rw [List.getElem?_drop] at h0 h1
  rw [List.length_drop] at hl
  exact ⟨by simpa using h0, h1, by omega⟩
theorem at_occ {t : List UInt8} {a b : UInt8} {i : Nat} (h0 : t[i]? = some a) (h1 : t[i + 1]? = some b) : Lib.occAt t [a, b] i = true := by
  unfold Lib.occAt
  rw [List.isPrefixOf_iff_prefix]
  obtain ⟨p, e0⟩ := List.getElem?_eq_some_iff.1 h0
  obtain ⟨q, e1⟩ := List.getElem?_eq_some_iff.1 h1
  rw [List.drop_eq_getElem_cons p, List.drop_eq_getElem_cons q, e0, e1]
  exact ⟨_, rfl⟩
theorem mid_at {t : List UInt8} {a b : UInt8} (h : 5 ≤ t.length) : (t.take 5).drop 3 = [a, b] ↔ (t[3]? = some a ∧ t[4]? = some b) := by
  match t, h with
  | x0 :: x1 :: x2 :: x3 :: x4 :: r, _ => simp
theorem wk_letters {t : List UInt8} (h : wkdI (t.take 3) ≠ 0) {i : Nat} (hi : i < 3) : ∃ c, t[i]? = some c ∧ 97 ≤ c.toNat := by
  have b := wkd_bd (t.take 3)
  have e := wkd_some h
  have g : t[i]? = (t.take 3)[i]? := by rw [List.getElem?_take, if_pos hi]
  rw [g, e]
  generalize wkdI (t.take 3) = k at *
  have hk : k = 1 ∨ k = 2 ∨ k = 3 ∨ k = 4 ∨ k = 5 ∨ k = 6 ∨ k = 7 := by omega
  have hi3 : i = 0 ∨ i = 1 ∨ i = 2 := by omega
  clear g e b h hi
  rcases hk with rfl | rfl | rfl | rfl | rfl | rfl | rfl <;> rcases hi3 with rfl | rfl | rfl <;> exact ⟨_, rfl, by decide⟩
theorem num_byte {t : List UInt8} {lo hi : Int} {c : UInt8} {i : Nat} (h : t[i]? = some c) (hd : c.toNat < 48 ∨ 57 < c.toNat) (h45 : c.toNat ≠ 45) : numE t lo hi = 2 := by
  refine (num_form (numF_odd (neg := negB t) ?_)).1
  rw [List.all_eq_true]
  intro hall
  have hm : c ∈ bodyN t := by
    have hc : c ∈ t := List.mem_of_getElem? h
    by_cases hn : negB t = true
    · obtain ⟨e, h0⟩ := body_neg hn
      rw [e]
      match t, h0 with
      | d :: r, _ =>
        have hd : d.toNat = 45 := by unfold negB at hn; simpa using hn
        rcases List.mem_cons.1 hc with rfl | hr
        · exact absurd hd h45
        · exact hr
    · rw [body_pos (Bool.eq_false_iff.2 hn)]; exact hc
  have := hall c hm
  rw [dgB_iff] at this
  omega
theorem num_nil (lo hi : Int) : numE [] lo hi = 2 := (num_form (numF_short (by decide))).1
@[irreducible] def bndR (k : Int) (a b : List UInt8) : Int × Int × Int × Int := if wkdI a = 0 then (0, 0, 0, 2) else if numE b 1 31 = 0 then (k, numV b 1 31, wkdI a, 0) else (0, 0, 0, numE b 1 31)
theorem bnd_no {k : Int} {a b : List UInt8} (h : wkdI a = 0) : bndR k a b = (0, 0, 0, 2) := by unfold bndR; exact if_pos h
theorem bnd_ok {k : Int} {a b : List UInt8} (h : wkdI a ≠ 0) (h2 : numE b 1 31 = 0) : bndR k a b = (k, numV b 1 31, wkdI a, 0) := by unfold bndR; rw [if_neg h]; exact if_pos h2
theorem bnd_err {k : Int} {a b : List UInt8} (h : wkdI a ≠ 0) (h2 : numE b 1 31 ≠ 0) : bndR k a b = (0, 0, 0, numE b 1 31) := by unfold bndR; rw [if_neg h]; exact if_neg h2
theorem wk_three {t : List UInt8} (h : wkdI t ≠ 0) : t.length = 3 := by
  have b := wkd_bd t
  rw [wkd_some h]
  exact wkS_len _ (by omega) (by omega)
theorem day_first {t : List UInt8} (hno : t.take 5 ≠ lastL) {i : Nat} (hi : Lib.index t [62, 61] = (i : Int)) : dayR t = bndR 2 (t.take i) (t.drop (i + 2)) := by
  rcases Lib.index_spec t [62, 61] with ⟨h1, _⟩ | ⟨j, h1, hj, hocc, hbef⟩
  · omega
  obtain rfl : j = i := by omega
  obtain ⟨e0, e1, hroom⟩ := occ_at hocc
  have hodd : numE t 1 31 = 2 := num_byte e0 (by decide) (by decide)
  by_cases hw : wkdI (t.take j) = 0
  · rw [bnd_no hw]
    by_cases h5 : 5 < t.length ∧ 0 < wkdI (t.take 3)
    · have hl := fun i hi => wk_letters (t := t) (by omega) (i := i) hi
      have hj3 : 3 ≤ j := by
        by_cases hlt : j < 3
        · obtain ⟨c, hc, h97⟩ := hl j hlt
          rw [hc] at e0; obtain rfl := Option.some.inj e0; exact absurd h97 (by decide)
        · omega
      have hj3n : j ≠ 3 := by rintro rfl; omega
      by_cases ha : (t.take 5).drop 3 = [62, 61]
      · rw [mid_at (by omega)] at ha
        have := hbef 3 (by omega)
        rw [at_occ ha.1 ha.2] at this; cases this
      · by_cases hb : (t.take 5).drop 3 = [60, 61]
        · rw [day_before hno h5.1 h5.2 hb]
          rw [mid_at (by omega)] at hb
          have hj4 : j ≠ 4 := by
            rintro rfl
            rw [hb.2] at e0; revert e0; decide
          have e2 : (t.drop 5)[j - 5]? = some 62 := by rw [List.getElem?_drop, show 5 + (j - 5) = j by omega]; exact e0
          rw [num_byte e2 (by decide) (by decide)]; rfl
        · exact day_odd hno h5.1 h5.2 ha hb
    · rw [day_date (fun h => hno h.2) h5, hodd]; rfl
  · have h3 := wk_three hw
    rw [List.length_take] at h3
    obtain rfl : j = 3 := by omega
    have wb := wkd_bd (t.take 3)
    by_cases h5 : 5 < t.length
    · rw [day_from hno h5 (by omega) ((mid_at (by omega)).2 ⟨e0, e1⟩)]
      unfold bndR; rw [if_neg hw]
    · rw [day_date (fun h => hno h.2) (fun h => h5 h.1), hodd, show t.drop (3 + 2) = [] by rw [List.drop_eq_nil_iff]; omega]
      rw [bnd_err hw (by rw [num_nil]; decide), num_nil]; rfl
theorem day_second {t : List UInt8} (hno : t.take 5 ≠ lastL) (hF : Lib.index t [62, 61] = -1) {i : Nat} (hi : Lib.index t [60, 61] = (i : Int)) : dayR t = bndR 3 (t.take i) (t.drop (i + 2)) := by
  have hnF : ∀ k, k ≤ t.length → Lib.occAt t [62, 61] k = false := by
    rcases Lib.index_spec t [62, 61] with ⟨_, h⟩ | ⟨j, h1, _⟩
    · exact h
    · omega
  rcases Lib.index_spec t [60, 61] with ⟨h1, _⟩ | ⟨j, h1, hj, hocc, hbef⟩
  · omega
  obtain rfl : j = i := by omega
  obtain ⟨e0, e1, hroom⟩ := occ_at hocc
  have hodd : numE t 1 31 = 2 := num_byte e0 (by decide) (by decide)
  by_cases hw : wkdI (t.take j) = 0
  · rw [bnd_no hw]
    by_cases h5 : 5 < t.length ∧ 0 < wkdI (t.take 3)
    · have hl := fun i hi => wk_letters (t := t) (by omega) (i := i) hi
      have hj3 : 3 ≤ j := by
        by_cases hlt : j < 3
        · obtain ⟨c, hc, h97⟩ := hl j hlt
          rw [hc] at e0; obtain rfl := Option.some.inj e0; exact absurd h97 (by decide)
        · omega
      have hj3n : j ≠ 3 := by rintro rfl; omega
      by_cases ha : (t.take 5).drop 3 = [62, 61]
      · rw [mid_at (by omega)] at ha
        have := hnF 3 (by omega)
        rw [at_occ ha.1 ha.2] at this; cases this
      · by_cases hb : (t.take 5).drop 3 = [60, 61]
        · rw [mid_at (by omega)] at hb
          have := hbef 3 (by omega)
          rw [at_occ hb.1 hb.2] at this; cases this
        · exact day_odd hno h5.1 h5.2 ha hb
    · rw [day_date (fun h => hno h.2) h5, hodd]; rfl
  · have h3 := wk_three hw
    rw [List.length_take] at h3
    obtain rfl : j = 3 := by omega
    have wb := wkd_bd (t.take 3)
    by_cases h5 : 5 < t.length
    · rw [day_before hno h5 (by omega) ((mid_at (by omega)).2 ⟨e0, e1⟩)]
      unfold bndR; rw [if_neg hw]
    · rw [day_date (fun h => hno h.2) (fun h => h5 h.1), hodd, show t.drop (3 + 2) = [] by rw [List.drop_eq_nil_iff]; omega]
      rw [bnd_err hw (by rw [num_nil]; decide), num_nil]; rfl
theorem day_none {t : List UInt8} (hno : t.take 5 ≠ lastL) (hF : Lib.index t [62, 61] = -1) (hB : Lib.index t [60, 61] = -1) : dayR t = (if numE t 1 31 = 0 then (0, numV t 1 31, 0, 0) else (0, 0, 0, numE t 1 31)) := by
  have hnF : ∀ k, k ≤ t.length → Lib.occAt t [62, 61] k = false := by
    rcases Lib.index_spec t [62, 61] with ⟨_, h⟩ | ⟨j, h1, _⟩
    · exact h
    · omega
  have hnB : ∀ k, k ≤ t.length → Lib.occAt t [60, 61] k = false := by
    rcases Lib.index_spec t [60, 61] with ⟨_, h⟩ | ⟨j, h1, _⟩
    · exact h
    · omega
  by_cases h5 : 5 < t.length ∧ 0 < wkdI (t.take 3)
  · obtain ⟨c, hc, h97⟩ := wk_letters (t := t) (by omega) (i := 0) (by decide)
    have e := num_byte (lo := 1) (hi := 31) hc (by omega) (by omega)
    rw [e]
    refine day_odd hno h5.1 h5.2 (fun ha => ?_) (fun hb => ?_)
    · rw [mid_at (by omega)] at ha
      have := hnF 3 (by omega)
      rw [at_occ ha.1 ha.2] at this; cases this
    · rw [mid_at (by omega)] at hb
      have := hnB 3 (by omega)
      rw [at_occ hb.1 hb.2] at this; cases this
  · exact day_date (fun h => hno h.2) h5
end Go.Proofs.YtafecnlaodgmkaaGreatDoor
namespace Go.Proofs.YtafecnlaodgmkaaGreatDoor
set_option linter.unusedVariables false
set_option linter.unusedSimpArgs false
open Go.ChangeShapes Go.WideShapes Go.ChangeAt Go.RowKit
def dnT : List (List UInt8) := [[109, 111, 110], [116, 117, 101], [119, 101, 100], [116, 104, 117], [102, 114, 105], [115, 97, 116], [115, 117, 110]]
structure DN (w : World) : Prop where
  cell : ∀ i : Nat, i < 7 → w.cell? ⟨2, i, none⟩ = some (.string (bs (dnT.getD i [])))
  size : 2 < w.heap.size
theorem dn_keep {w w' : World} (h : Hid (DN w)) (hb : Below w.heap.size w w') : DN w' :=
  ⟨fun i hi => (hb.cell (p := ⟨2, i, none⟩) h.out.size).trans (h.out.cell i hi), Nat.lt_of_lt_of_le h.out.size hb.size⟩
structure ML (w : World) : Prop where
  cell : ∃ m : Int, w.cell? ⟨3, 0, none⟩ = some (.int .i64 m)
  size : 3 < w.heap.size
theorem ml_keep {w w' : World} (h : Hid (ML w)) (hb : Below w.heap.size w w') : ML w' := by
  obtain ⟨m, hm⟩ := h.out.cell
  exact ⟨⟨m, (hb.cell (p := ⟨3, 0, none⟩) h.out.size).trans hm⟩, Nat.lt_of_lt_of_le h.out.size hb.size⟩
structure TW (w : World) : Prop where
  tb : TB w
  dn : DN w
  ml : ML w
theorem tw_keep {w w' : World} (h : Hid (TW w)) (hb : Below w.heap.size w w') : TW w' := ⟨tb_keep (Lib.hid h.out.tb) hb, dn_keep (Lib.hid h.out.dn) hb, ml_keep (Lib.hid h.out.ml) hb⟩
def wdE (t : List UInt8) : Int := if wkdI t = 0 then 2 else 0
theorem wd_at {t : List UInt8} {k : Nat} (hk : k < 7) (h : t = dnT.getD k []) : wkdI t = (k : Int) + 1 ∧ wdE t = 0 := by
  have e : wkdI t = (k : Int) + 1 := by
    rw [h]
    match k, hk with
    | 0, _ => exact wkd_1
    | 1, _ => exact wkd_2
    | 2, _ => exact wkd_3
    | 3, _ => exact wkd_4
    | 4, _ => exact wkd_5
    | 5, _ => exact wkd_6
    | 6, _ => exact wkd_7
  exact ⟨e, if_neg (by rw [e]; omega)⟩
theorem wd_no {t : List UInt8} (h : ∀ k, k < 7 → t ≠ dnT.getD k []) : wkdI t = 0 ∧ wdE t = 2 := by
  have e := wkd_none (h 0 (by decide)) (h 1 (by decide)) (h 2 (by decide)) (h 3 (by decide)) (h 4 (by decide)) (h 5 (by decide)) (h 6 (by decide))
  exact ⟨e, if_pos e⟩
def dnV : Value := .agg #[.string (bs [109, 111, 110]), .string (bs [116, 117, 101]), .string (bs [119, 101, 100]), .string (bs [116, 104, 117]), .string (bs [102, 114, 105]), .string (bs [115, 97, 116]), .string (bs [115, 117, 110])]
set_option maxHeartbeats 3200000 in
set_option maxRecDepth 100000 in
theorem pWeekday14_p (t : List UInt8) (w : World) (hM : DN w) : Calls Tryz.prog 147 #[.string (bs t)] w fun e w' => e = .returned (.tuple #[.int .i64 (wkdI t), .int .i64 (wdE t)]) ∧ w = w' := by
  have c0 : w.cell? ⟨2, 0, none⟩ = some (.string (bs [109, 111, 110])) := hM.cell 0 (by decide)
  have c1 : w.cell? ⟨2, 1, none⟩ = some (.string (bs [116, 117, 101])) := hM.cell 1 (by decide)
  have c2 : w.cell? ⟨2, 2, none⟩ = some (.string (bs [119, 101, 100])) := hM.cell 2 (by decide)
  have c3 : w.cell? ⟨2, 3, none⟩ = some (.string (bs [116, 104, 117])) := hM.cell 3 (by decide)
  have c4 : w.cell? ⟨2, 4, none⟩ = some (.string (bs [102, 114, 105])) := hM.cell 4 (by decide)
  have c5 : w.cell? ⟨2, 5, none⟩ = some (.string (bs [115, 97, 116])) := hM.cell 5 (by decide)
  have c6 : w.cell? ⟨2, 6, none⟩ = some (.string (bs [115, 117, 110])) := hM.cell 6 (by decide)
  have zg := hM.size
  clear hM
  have hi : ∀ (k : Nat), k < 7 → ∀ w, (Instr.index 168 dnV (.int .i64 (k : Int))).run Tryz.prog w = .ok (.string (bs (dnT.getD k []))) w := by
    intro k hk
    match k, hk with
    | 0, _ => exact fun _ => by kernel_rfl
    | 1, _ => exact fun _ => by kernel_rfl
    | 2, _ => exact fun _ => by kernel_rfl
    | 3, _ => exact fun _ => by kernel_rfl
    | 4, _ => exact fun _ => by kernel_rfl
    | 5, _ => exact fun _ => by kernel_rfl
    | 6, _ => exact fun _ => by kernel_rfl
  unfold dnV at hi
  have lt := bs_list t
  go_enter Tryz.func147, Tryz.ntmps147
  go_wp2
  go_loop [7] (fun i => ∃ k : Nat, k ≤ 7 ∧ i = .int .i64 (k : Int) ∧ Hid (∀ j, j < k → t ≠ dnT.getD j [])) (fun i => 7 - (intOf i).toNat)
  case atStart => exact ⟨0, by omega, rfl, Lib.hid (fun j hj => by omega)⟩
  case round =>
    obtain ⟨k, hk, rfl, hno⟩ := hrel
    by_cases hlt : k < 7
    · have hik := hi k hlt
      have lk := bs_list (dnT.getD k [])
      by_cases he : t = dnT.getD k []
      · have E := Lib.hid (wd_at hlt he)
        have hq : (t == dnT.getD k []) = true := by rw [beq_iff_eq]; exact he
        clear hi c0 c1 c2 c3 c4 c5 c6
        replace he := Lib.hid he
        generalize dnT.getD k [] = D at *
        go_wp2
        go_ret2
        exact ⟨by rw [E.out.1, E.out.2]; first | rfl | go_num, rfl⟩
      · have hq : (t == dnT.getD k []) = false := by rw [beq_eq_false_iff_ne]; exact he
        have E : Hid (∀ j, j < k + 1 → t ≠ dnT.getD j []) := Lib.hid (fun j hj => by
          by_cases hjk : j = k
          · subst hjk; exact he
          · exact hno.out j (by omega))
        clear hi c0 c1 c2 c3 c4 c5 c6
        replace he := Lib.hid he
        generalize dnT.getD k [] = D at *
        go_wp2
        go_round
        case rel => exact ⟨k + 1, by omega, by go_num, E⟩
        case measure => simp [intOf]; omega
    · obtain rfl : k = 7 := by omega
      have E := Lib.hid (wd_no hno.out)
      clear hi c0 c1 c2 c3 c4 c5 c6
      go_wp2
      go_ret2
      exact ⟨by rw [E.out.1, E.out.2]; try rfl, rfl⟩
end Go.Proofs.YtafecnlaodgmkaaGreatDoor
namespace Go.Proofs.YtafecnlaodgmkaaGreatDoor
set_option linter.unusedVariables false
set_option linter.unusedSimpArgs false
open Go.ChangeShapes Go.WideShapes Go.ChangeAt Go.RowKit
theorem grow2 {P : Program} {f : Nat} {args : Array Value} {w : World} {r : Ending} (h : Calls P f args w fun e w' => e = r ∧ w = w') : Calls P f args w fun e w' => e = r ∧ Below w.heap.size w w' := h.mono fun e w' ⟨a, b⟩ => ⟨a, b ▸ Below.refl _ _⟩
@[irreducible] def plT (T : List UInt8) : Bool := (mdE dgN T 6 == 0) && (decide (T.length = 1) || !zero1 T)
theorem mdA_all (T : List UInt8) : mdA dgN T = T.all dgB := by
  unfold mdA
  induction T with
  | nil => rfl
  | cons c r ih => rw [List.all_cons, List.all_cons, ih, dgB_dgN]
theorem pl_no {T : List UInt8} (h : plT T = false) (b : Bool) : numF T b = false := by
  rw [Bool.eq_false_iff]
  intro hf
  unfold numF at hf
  simp only [Bool.and_eq_true, decide_eq_true_eq, Bool.not_eq_true'] at hf
  obtain ⟨⟨⟨h1, h6⟩, ha⟩, hz⟩ := hf
  unfold plT at h
  rw [mdE_ok ⟨h1, by omega, by rw [mdA_all]; exact ha⟩] at h
  simp at h
  rw [h.2] at hz
  simp at hz
  omega
theorem pl_yes {T : List UInt8} (h : plT T = true) : 1 ≤ T.length ∧ T.length ≤ 6 ∧ T.all dgB = true ∧ (T.length = 1 ∨ zero1 T = false) := by
  unfold plT at h
  rw [Bool.and_eq_true] at h
  obtain ⟨h1, h2⟩ := h
  by_cases hm : 1 ≤ T.length ∧ (T.length : Int) ≤ 6 ∧ mdA dgN T = true
  · refine ⟨hm.1, by omega, by rw [← mdA_all]; exact hm.2.2, ?_⟩
    simpa using h2
  · rw [mdE_no hm] at h1; simp at h1
theorem dval_six {T : List UInt8} (h : T.all dgB = true) (h6 : T.length ≤ 6) : dval T ≤ 999999 := by
  have h1 := dval_lt T h
  have h2 : 10 ^ T.length ≤ 10 ^ 6 := Nat.pow_le_pow_right (by decide) h6
  omega
theorem zero_val {T : List UInt8} (h : T.all dgB = true) (h1 : T.length = 1) (hz : zero1 T = true) : dval T = 0 := by
  match T, h1 with
  | [c], _ =>
    have hc : c.toNat = 48 := by unfold zero1 at hz; simpa using hz
    simp [dval, hc]
theorem num_tu {L : List UInt8} {lo hi : Int} (h : plT (bodyN L) = true) :
    (negB L = true ∧ dval (bodyN L) = 0 → numE L lo hi = 2 ∧ numV L lo hi = 0) ∧
    (¬ (negB L = true ∧ dval (bodyN L) = 0) → numE L lo hi = wiE (tuV (dval (bodyN L)) (negB L)) lo hi ∧ numV L lo hi = wiV (tuV (dval (bodyN L)) (negB L)) lo hi) := by
  obtain ⟨h1, h6, ha, hz⟩ := pl_yes h
  constructor
  · rintro ⟨hn, hv⟩
    have hz1 : zero1 (bodyN L) = true := by
      cases q : zero1 (bodyN L)
      · have := dval_pos ha h1 q; omega
      · rfl
    exact num_form (numF_zero hz1 (Or.inr hn))
  · intro hno
    have hF : numF (bodyN L) (negB L) = true := by
      refine numF_yes h1 h6 ha ?_
      cases q : zero1 (bodyN L)
      · exact Or.inl rfl
      · right
        have hl : (bodyN L).length = 1 := by
          rcases hz with hz | hz
          · exact hz
          · rw [q] at hz; cases hz
        refine ⟨by omega, ?_⟩
        cases hn : negB L
        · rfl
        · exact absurd ⟨hn, zero_val ha hl q⟩ hno
    have hI : numI L = tuV (dval (bodyN L)) (negB L) := by
      cases hn : negB L
      · rw [numI_pos hn, (tu_pos _).1]
      · rw [numI_neg hn, (tu_neg (by rw [hn] at hno; simp at hno; omega)).1]
    rw [← hI]
    by_cases hr : numI L < lo ∨ hi < numI L
    · rw [(num_range hF hr).1, (num_range hF hr).2, (wi_no hr).1, (wi_no hr).2]; exact ⟨rfl, rfl⟩
    · rw [(num_ok hF hr).1, (num_ok hF hr).2, (wi_ok hr).1, (wi_ok hr).2]; exact ⟨rfl, rfl⟩
set_option maxHeartbeats 1600000 in
set_option maxRecDepth 100000 in
theorem pPlain_p (T : List UInt8) (hL : T.length ≤ 9223372036854775807) (w : World) : Calls Tryz.prog 156 #[.string (bs T)] w fun e w' => e = .returned (.bool (plT T)) ∧ w = w' := by
  have hS := bs_size T
  have H := pMade_digit T 6 hL
  by_cases hm : 1 ≤ T.length ∧ (T.length : Int) ≤ 6 ∧ mdA dgN T = true
  · have e := mdE_ok hm
    rw [e] at H
    replace H := Lib.hid H
    by_cases h1 : T.length = 1
    · have E : Hid (plT T = true) := Lib.hid (by unfold plT; rw [e, decide_eq_true h1]; rfl)
      have q1 : ((T.length : Int) == 1) = true := by rw [beq_iff_eq]; omega
      replace hm := Lib.hid hm
      replace h1 := Lib.hid h1
      replace e := Lib.hid e
      go_enter Tryz.func156, Tryz.ntmps156
      go_wp2_with fail
      refine (H.out _).mono ?_
      rintro e w1 ⟨rfl, rfl⟩
      go_wp2
      go_ret
      exact ⟨by rw [E.out]; try rfl, rfl⟩
    · have h0 : 0 < T.length := by omega
      obtain ⟨c, hc⟩ : ∃ c : Nat, T[0].toNat = c := ⟨_, rfl⟩
      have hb := byte_bs T 0 h0 (by rw [hS]; exact h0) hc
      have hz := (neg_at h0).2
      rw [hc] at hz
      have q1 : ((T.length : Int) == 1) = false := by rw [beq_eq_false_iff_ne]; omega
      have q2 : ((c : Int) != 48) = !(c == 48) := by rw [Bool.eq_iff_iff]; simp; omega
      have E : Hid (plT T = !(c == 48)) := Lib.hid (by unfold plT; rw [e, decide_eq_false h1, hz]; rfl)
      generalize (c == 48) = x at *
      replace hm := Lib.hid hm
      replace h1 := Lib.hid h1
      replace e := Lib.hid e
      replace hz := Lib.hid hz
      replace hc := Lib.hid hc
      cases x
      all_goals
        go_enter Tryz.func156, Tryz.ntmps156
        go_wp2_with fail
        refine (H.out _).mono ?_
        rintro e w1 ⟨rfl, rfl⟩
        go_wp2
        go_ret
        exact ⟨by rw [E.out]; try rfl, rfl⟩
  · have e := mdE_no hm
    rw [e] at H
    replace H := Lib.hid H
    have E : Hid (plT T = false) := Lib.hid (by unfold plT; rw [e]; rfl)
    replace hm := Lib.hid hm
    replace e := Lib.hid e
    go_enter Tryz.func156, Tryz.ntmps156
    go_wp2_with fail
    refine (H.out _).mono ?_
    rintro e w1 ⟨rfl, rfl⟩
    go_wp2
    go_ret
    exact ⟨by rw [E.out]; try rfl, rfl⟩
set_option maxHeartbeats 3200000 in
set_option maxRecDepth 100000 in
theorem pNum14_p (L : List UInt8) (lo hi : Int) (hL : L.length ≤ 100000) (w : World) : Calls Tryz.prog 151 #[.string (bs L), .int .i64 lo, .int .i64 hi] w fun e w' => e = .returned (.tuple #[.int .i64 (numV L lo hi), .int .i64 (numE L lo hi)]) ∧ w = w' := by
  have X1 := fun w => cutNeg_p L w
  have hT : (bodyN L).length ≤ 100000 := by
    unfold bodyN
    split
    · rw [List.length_drop]; omega
    · exact hL
  have X2 := fun w => pPlain_p (bodyN L) (by omega) w
  have F0 := fun h => num_form (L := L) (lo := lo) (hi := hi) (pl_no h (negB L))
  have F1 := fun h => num_tu (L := L) (lo := lo) (hi := hi) h
  obtain ⟨T, hTT⟩ : ∃ T, bodyN L = T := ⟨_, rfl⟩
  obtain ⟨b, hbb⟩ : ∃ b, negB L = b := ⟨_, rfl⟩
  rw [hTT] at X1 X2 F0 F1 hT
  rw [hbb] at X1 F1
  cases hp : plT T
  · have E := Lib.hid (F0 hp)
    rw [hp] at X2
    have H1 := Lib.hid X1
    have H2 := Lib.hid X2
    clear X1 X2 F0 F1 hp hT hTT hbb
    go_enter Tryz.func151, Tryz.ntmps151
    go_wp2_with fail
    refine (H1.out _).mono ?_
    rintro e w1 ⟨rfl, rfl⟩
    go_wp2_with fail
    refine (H2.out _).mono ?_
    rintro e w1 ⟨rfl, rfl⟩
    go_wp2
    go_ret2
    exact ⟨by rw [E.out.1, E.out.2]; try rfl, rfl⟩
  · obtain ⟨h1, h6, ha, hz⟩ := pl_yes hp
    have hv := dval_six ha h6
    have X3 := fun w => pDigits_p T ha (by omega) w
    have X4 := fun w => pTurned_p (dval T : Int) b (by omega) (by omega) w
    have F2 := F1 hp
    rw [hp] at X2
    have H1 := Lib.hid X1
    have H2 := Lib.hid X2
    have H3 := Lib.hid X3
    clear F0 F1 hp hTT hbb X1 X2 X3 hz ha
    by_cases hx : b = true ∧ dval T = 0
    · have E := Lib.hid (F2.1 hx)
      obtain ⟨rfl, h0⟩ := hx
      rw [h0] at H3 X4
      rw [show ((0 : Nat) : Int) = 0 from rfl, tu_zero.1, tu_zero.2] at X4
      have H4 := Lib.hid X4
      clear X4 F2 h0 hv
      go_enter Tryz.func151, Tryz.ntmps151
      go_wp2_with fail
      refine (H1.out _).mono ?_
      rintro e w1 ⟨rfl, rfl⟩
      go_wp2_with fail
      refine (H2.out _).mono ?_
      rintro e w1 ⟨rfl, rfl⟩
      go_wp2_with fail
      refine (H3.out _).mono ?_
      rintro e w1 ⟨rfl, rfl⟩
      go_wp2_with fail
      refine (H4.out _).mono ?_
      rintro e w1 ⟨rfl, rfl⟩
      go_wp2
      go_ret2
      exact ⟨by rw [E.out.1, E.out.2]; try rfl, rfl⟩
    · have E := Lib.hid (F2.2 hx)
      have ht : tuE (dval T : Int) b = 0 := by unfold tuE; exact if_neg (fun h => hx ⟨h.1, by omega⟩)
      rw [ht] at X4
      have H4 := Lib.hid X4
      have H5 := Lib.hid (pWithin_p (tuV (dval T : Int) b) lo hi)
      clear X4 F2 ht hx
      generalize tuV (dval T : Int) b = n at *
      generalize wiE n lo hi = ve at *
      generalize wiV n lo hi = vv at *
      generalize dval T = dv at *
      go_enter Tryz.func151, Tryz.ntmps151
      go_wp2_with fail
      refine (H1.out _).mono ?_
      rintro e w1 ⟨rfl, rfl⟩
      go_wp2_with fail
      refine (H2.out _).mono ?_
      rintro e w1 ⟨rfl, rfl⟩
      go_wp2_with fail
      refine (H3.out _).mono ?_
      rintro e w1 ⟨rfl, rfl⟩
      go_wp2_with fail
      refine (H4.out _).mono ?_
      rintro e w1 ⟨rfl, rfl⟩
      go_wp2_with fail
      refine (H5.out _).mono ?_
      rintro e w1 ⟨rfl, rfl⟩
      go_wp2
      go_ret2
      exact ⟨by rw [E.out.1, E.out.2]; try rfl, rfl⟩
theorem pNum14_any (L : List UInt8) (lo hi : Int) (hL : L.length ≤ 100000) (w : World) : Calls Tryz.prog 151 #[.string (bs L), .int .i64 lo, .int .i64 hi] w fun e w' => e = .returned (.tuple #[.int .i64 (numV L lo hi), .int .i64 (numE L lo hi)]) ∧ Below w.heap.size w w' := grow2 (pNum14_p L lo hi hL w)
theorem abb_mdE (L : List UInt8) : mdE letN L 6 = abbE L := by
  unfold mdE abbE mdA letAll
  by_cases h : (L.all fun c => letN c.toNat) = true ∧ 1 ≤ L.length ∧ L.length ≤ 6
  · rw [if_pos h, if_pos ⟨h.2.1, by omega, h.1⟩]
  · rw [if_neg h, if_neg (fun x => h ⟨x.2.2, x.1, by omega⟩)]
theorem nam_mdE (L : List UInt8) : mdE namN L 32 = namE L := by
  unfold mdE namE mdA namAll
  by_cases h : 1 ≤ L.length ∧ L.length ≤ 32 ∧ (L.all fun c => namN c.toNat) = true
  · rw [if_pos h, if_pos ⟨h.1, by omega, h.2.2⟩]
  · rw [if_neg h, if_neg (fun x => h ⟨x.1, by omega, x.2.2⟩)]
set_option maxHeartbeats 1600000 in
theorem pAbbr_all (L : List UInt8) (hL : L.length ≤ 9223372036854775807) (w : World) : Calls Tryz.prog 114 #[.string (bs L)] w fun e w' => e = .returned (.int .i64 (abbE L)) ∧ Below w.heap.size w w' := by
  have X := fun w => grow2 (pMade_letter L 6 hL w)
  rw [abb_mdE] at X
  have H := Lib.hid X
  clear X
  go_enter Tryz.func114, Tryz.ntmps114
  go_wp2_with fail
  
  refine (H.out _).mono ?_
  rintro e V1 ⟨rfl, hb1⟩
  have B1 : Hid (Below w.heap.size w V1) := by first | exact Lib.hid ((Below.refl w.heap.size w).trans (hb1.mono (by first | assumption | (simp <;> omega) | (simp; done)))) | exact Lib.hid (((Below.refl w.heap.size w).alloc (Nat.le_refl _) _).trans (hb1.mono (by first | assumption | (simp <;> omega) | (simp; done)))) | exact Lib.hid ((((Below.refl w.heap.size w).alloc (Nat.le_refl _) _).alloc (by simp <;> omega) _).trans (hb1.mono (by first | assumption | (simp <;> omega) | (simp; done)))) | exact Lib.hid (((((Below.refl w.heap.size w).alloc (Nat.le_refl _) _).alloc (by simp <;> omega) _).alloc (by simp <;> omega) _).trans (hb1.mono (by first | assumption | (simp <;> omega) | (simp; done))))
  clear hb1
  go_simp
  go_wp2
  go_ret
  exact ⟨by first | rfl | simp, B1.out⟩
set_option maxHeartbeats 1600000 in
theorem pName_all (L : List UInt8) (hL : L.length ≤ 9223372036854775807) (w : World) : Calls Tryz.prog 86 #[.string (bs L)] w fun e w' => e = .returned (.int .i64 (namE L)) ∧ Below w.heap.size w w' := by
  have X := fun w => grow2 (pMade_nameByte L 32 hL w)
  rw [nam_mdE] at X
  have H := Lib.hid X
  clear X
  go_enter Tryz.func86, Tryz.ntmps86
  go_wp2_with fail
  
  refine (H.out _).mono ?_
  rintro e V1 ⟨rfl, hb1⟩
  have B1 : Hid (Below w.heap.size w V1) := by first | exact Lib.hid ((Below.refl w.heap.size w).trans (hb1.mono (by first | assumption | (simp <;> omega) | (simp; done)))) | exact Lib.hid (((Below.refl w.heap.size w).alloc (Nat.le_refl _) _).trans (hb1.mono (by first | assumption | (simp <;> omega) | (simp; done)))) | exact Lib.hid ((((Below.refl w.heap.size w).alloc (Nat.le_refl _) _).alloc (by simp <;> omega) _).trans (hb1.mono (by first | assumption | (simp <;> omega) | (simp; done)))) | exact Lib.hid (((((Below.refl w.heap.size w).alloc (Nat.le_refl _) _).alloc (by simp <;> omega) _).alloc (by simp <;> omega) _).trans (hb1.mono (by first | assumption | (simp <;> omega) | (simp; done))))
  clear hb1
  go_simp
  go_wp2
  go_ret
  exact ⟨by first | rfl | simp, B1.out⟩
end Go.Proofs.YtafecnlaodgmkaaGreatDoor
namespace Go.Proofs.YtafecnlaodgmkaaGreatDoor
set_option linter.unusedVariables false
set_option linter.unusedSimpArgs false
open Go.ChangeShapes Go.WideShapes Go.ChangeAt Go.RowKit
theorem mk_bs (l : List UInt8) : (⟨l.toArray⟩ : ByteArray) = bs l := by unfold bs; rfl
theorem pCut_any (L S : List UInt8) (hL : L.length ≤ 100000) (w : World) (hM : TW w) : Calls Tryz.prog 149 #[.string (bs L), .string (bs S)] w fun e w' => e = .returned (.tuple #[.string (bs (Lib.cut L S).1), .string (bs (Lib.cut L S).2.1), .bool (Lib.cut L S).2.2]) ∧ Below w.heap.size w w' := by
  obtain ⟨m, hm⟩ := hM.ml.cell
  have H := Tryz.strings_Cut (bs L) (bs S) m w (by rw [bs_size]; omega) hm
  rw [bs_toList, bs_toList, mk_bs, mk_bs] at H
  refine H.mono ?_
  rintro e w' ⟨rfl, n, rfl⟩
  exact ⟨rfl, dwn (Below.refl _ _) n⟩
theorem cutFrom_any (L : List UInt8) (hL : L.length ≤ 100000) (w : World) (hM : TW w) : Calls Tryz.prog 149 #[.string (bs L), .string ⟨#[62, 61]⟩] w fun e w' => e = .returned (.tuple #[.string (bs (Lib.cut L [62, 61]).1), .string (bs (Lib.cut L [62, 61]).2.1), .bool (Lib.cut L [62, 61]).2.2]) ∧ Below w.heap.size w w' := by
  have H := pCut_any L [62, 61] hL w hM
  rw [lit_of #[62, 61] [62, 61] rfl] at H
  exact H
theorem cutBef_any (L : List UInt8) (hL : L.length ≤ 100000) (w : World) (hM : TW w) : Calls Tryz.prog 149 #[.string (bs L), .string ⟨#[60, 61]⟩] w fun e w' => e = .returned (.tuple #[.string (bs (Lib.cut L [60, 61]).1), .string (bs (Lib.cut L [60, 61]).2.1), .bool (Lib.cut L [60, 61]).2.2]) ∧ Below w.heap.size w w' := by
  have H := pCut_any L [60, 61] hL w hM
  rw [lit_of #[60, 61] [60, 61] rfl] at H
  exact H
theorem pWeekday14_any (t : List UInt8) (w : World) (hM : TW w) : Calls Tryz.prog 147 #[.string (bs t)] w fun e w' => e = .returned (.tuple #[.int .i64 (wkdI t), .int .i64 (wdE t)]) ∧ Below w.heap.size w w' := grow2 (pWeekday14_p t w hM.dn)
def unR (E k n x : Int) : Int × Int × Int × Int := if E = 0 then (k, n, x, 0) else (0, 0, 0, E)
set_option maxHeartbeats 1600000 in
set_option maxRecDepth 100000 in
theorem pUnless_ok (k n x : Int) (w : World) : Calls Tryz.prog 148 #[.int .i64 0, .agg #[.int .i64 k, .int .i64 n, .int .i64 x]] w fun e w' => e = .returned (.tuple #[.agg #[.int .i64 k, .int .i64 n, .int .i64 x], .int .i64 0]) ∧ Below w.heap.size w w' := by
  go_enter Tryz.func148, Tryz.ntmps148
  refine wp_shut ?_
  go_wp2
  refine shut_ret (v := .tuple #[.agg #[.int .i64 k, .int .i64 n, .int .i64 x], .int .i64 0]) (by simp [results, Tryz.results148, go_sem]) rfl ⟨rfl, by go_grown⟩
set_option maxHeartbeats 1600000 in
set_option maxRecDepth 100000 in
theorem pUnless_no (E k n x : Int) (hE : E ≠ 0) (w : World) : Calls Tryz.prog 148 #[.int .i64 E, .agg #[.int .i64 k, .int .i64 n, .int .i64 x]] w fun e w' => e = .returned (.tuple #[.agg #[.int .i64 0, .int .i64 0, .int .i64 0], .int .i64 E]) ∧ Below w.heap.size w w' := by
  have q : (E == 0) = false := beq_eq_false_iff_ne.2 hE
  replace hE := Lib.hid hE
  go_enter Tryz.func148, Tryz.ntmps148
  refine wp_shut ?_
  go_wp2
  refine shut_ret (v := .tuple #[.agg #[.int .i64 0, .int .i64 0, .int .i64 0], .int .i64 E]) (by simp [results, Tryz.results148, go_sem]) rfl ⟨rfl, by go_grown⟩
theorem pUnless_any (E k n x : Int) (w : World) : Calls Tryz.prog 148 #[.int .i64 E, .agg #[.int .i64 k, .int .i64 n, .int .i64 x]] w fun e w' => e = .returned (.tuple #[.agg #[.int .i64 (unR E k n x).1, .int .i64 (unR E k n x).2.1, .int .i64 (unR E k n x).2.2.1], .int .i64 (unR E k n x).2.2.2]) ∧ Below w.heap.size w w' := by
  by_cases h : E = 0
  · subst h; exact pUnless_ok k n x w
  · have e : unR E k n x = (0, 0, 0, E) := if_neg h
    rw [e]; exact pUnless_no E k n x h w
theorem bnd_un {a b : List UInt8} {k : Int} (h : wkdI a ≠ 0) : bndR k a b = unR (numE b 1 31) k (numV b 1 31) (wkdI a) := by
  by_cases h2 : numE b 1 31 = 0
  · rw [bnd_ok h h2]; exact (if_pos h2).symm
  · rw [bnd_err h h2]; exact (if_neg h2).symm
set_option maxHeartbeats 3200000 in
set_option maxRecDepth 100000 in
theorem pBound_any (k : Int) (a b : List UInt8) (hb : b.length ≤ 100000) (w : World) (hM : TW w) : Calls Tryz.prog 150 #[.int .i64 k, .string (bs a), .string (bs b)] w fun e w' => e = .returned (.tuple #[.agg #[.int .i64 (bndR k a b).1, .int .i64 (bndR k a b).2.1, .int .i64 (bndR k a b).2.2.1], .int .i64 (bndR k a b).2.2.2]) ∧ Below w.heap.size w w' := by
  have X1 := pWeekday14_any a
  by_cases h : wkdI a = 0
  · rw [bnd_no h]
    have e : wdE a = 2 := if_pos h
    rw [e] at X1
    have H1 := Lib.hid X1
    clear X1 e h
    replace hM := Lib.hid hM
    generalize wkdI a = x at *
    go_enter Tryz.func150, Tryz.ntmps150
    refine wp_shut ?_
    go_wp2_with fail
    
    refine (H1.out _ (by first | exact tw_keep hM ((Below.refl w.heap.size w).alloc (Nat.le_refl _) _))).mono ?_
    rintro e V1 ⟨rfl, hb1⟩
    have B1 := nby hb1
    have Z1 := Lib.hid (row_call hb1 (heap_alloc_new _ _))
    clear hb1
    obtain ⟨Z1_0, Z1_1, Z1_2⟩ := qw3 Z1
    have Z1_f0 : V1.frozen? ⟨w.heap.size, 0, none⟩ = false := by simp [World.frozen?, Z1.out]
    have Z1_f1 : V1.frozen? ⟨w.heap.size, 1, none⟩ = false := by simp [World.frozen?, Z1.out]
    have Z1_f2 : V1.frozen? ⟨w.heap.size, 2, none⟩ = false := by simp [World.frozen?, Z1.out]
    have zZ1 := lt_of_heap Z1.out
    go_simp
    go_wp2
    refine shut_ret (v := .tuple #[.agg #[.int .i64 0, .int .i64 0, .int .i64 0], .int .i64 2]) (by simp [results, Tryz.results150, go_sem, zZ1, Z1_0, Z1_1, Z1_2]) rfl ⟨rfl, ?_⟩
    first | exact B1.out | exact keep3 B1.out (Nat.le_refl _) _ _ _ | exact keepA (keep3 B1.out (Nat.le_refl _) _ _ _) _
  · rw [bnd_un h]
    have e : wdE a = 0 := if_neg h
    rw [e] at X1
    have H1 := Lib.hid X1
    have H2 := Lib.hid (pNum14_any b 1 31 hb)
    have H3 := Lib.hid (pUnless_any (numE b 1 31) k (numV b 1 31) (wkdI a))
    clear X1 e h
    replace hM := Lib.hid hM
    generalize unR (numE b 1 31) k (numV b 1 31) (wkdI a) = R at *
    generalize numE b 1 31 = ne at *
    generalize numV b 1 31 = nv at *
    generalize wkdI a = x at *
    go_enter Tryz.func150, Tryz.ntmps150
    refine wp_shut ?_
    go_wp2_with fail
    
    refine (H1.out _ (by first | exact tw_keep hM ((Below.refl w.heap.size w).alloc (Nat.le_refl _) _))).mono ?_
    rintro e V1 ⟨rfl, hb1⟩
    have B1 := nby hb1
    have Z1 := Lib.hid (row_call hb1 (heap_alloc_new _ _))
    clear hb1
    obtain ⟨Z1_0, Z1_1, Z1_2⟩ := qw3 Z1
    have Z1_f0 : V1.frozen? ⟨w.heap.size, 0, none⟩ = false := by simp [World.frozen?, Z1.out]
    have Z1_f1 : V1.frozen? ⟨w.heap.size, 1, none⟩ = false := by simp [World.frozen?, Z1.out]
    have Z1_f2 : V1.frozen? ⟨w.heap.size, 2, none⟩ = false := by simp [World.frozen?, Z1.out]
    have zZ1 := lt_of_heap Z1.out
    go_simp
    go_wp2_with fail
    refine (H2.out _).mono ?_
    rintro e V2 ⟨rfl, hb2⟩
    clear Z1_0 Z1_1 Z1_2 Z1_f0 Z1_f1 Z1_f2 zZ1
    have B2 : Hid (Below w.heap.size w V2) := nbx B1 hb2
    replace Z1 := rcx hb2 Z1
    clear hb2
    obtain ⟨Z1_0, Z1_1, Z1_2⟩ := qw3 Z1
    have Z1_f0 : V2.frozen? ⟨w.heap.size, 0, none⟩ = false := by simp [World.frozen?, Z1.out]
    have Z1_f1 : V2.frozen? ⟨w.heap.size, 1, none⟩ = false := by simp [World.frozen?, Z1.out]
    have Z1_f2 : V2.frozen? ⟨w.heap.size, 2, none⟩ = false := by simp [World.frozen?, Z1.out]
    have zZ1 := lt_of_heap Z1.out
    go_simp
    go_wp2_with fail
    refine (H3.out _).mono ?_
    rintro e V3 ⟨rfl, hb3⟩
    clear Z1_0 Z1_1 Z1_2 Z1_f0 Z1_f1 Z1_f2 zZ1
    have B3 : Hid (Below w.heap.size w V3) := nbx B2 hb3
    replace Z1 := rcx hb3 Z1
    clear hb3
    obtain ⟨Z1_0, Z1_1, Z1_2⟩ := qw3 Z1
    have Z1_f0 : V3.frozen? ⟨w.heap.size, 0, none⟩ = false := by simp [World.frozen?, Z1.out]
    have Z1_f1 : V3.frozen? ⟨w.heap.size, 1, none⟩ = false := by simp [World.frozen?, Z1.out]
    have Z1_f2 : V3.frozen? ⟨w.heap.size, 2, none⟩ = false := by simp [World.frozen?, Z1.out]
    have zZ1 := lt_of_heap Z1.out
    go_simp
    go_wp2
    refine shut_ret (v := .tuple #[.agg #[.int .i64 R.1, .int .i64 R.2.1, .int .i64 R.2.2.1], .int .i64 R.2.2.2]) (by simp [results, Tryz.results150, go_sem, zZ1, Z1_0, Z1_1, Z1_2]) rfl ⟨rfl, ?_⟩
    first | exact keep3 B3.out (Nat.le_refl _) _ _ _ | exact keepA (keep3 B3.out (Nat.le_refl _) _ _ _) _
set_option maxHeartbeats 3200000 in
set_option maxRecDepth 100000 in
theorem day_l (L : List UInt8) (hL : L.length ≤ 100000) (h : L.take 5 = lastL) (w : World) (hM : TW w) : Calls Tryz.prog 137 #[.string (bs L)] w fun e w' => e = .returned (.tuple #[.agg #[.int .i64 (dayR L).1, .int .i64 (dayR L).2.1, .int .i64 (dayR L).2.2.1], .int .i64 (dayR L).2.2.2]) ∧ Below w.heap.size w w' := by
  have h5 : 5 ≤ L.length := by
    have e := congrArg List.length h
    rw [List.length_take] at e
    have : lastL.length = 5 := rfl
    omega
  have eD : dayR L = unR (wdE (L.drop 5)) 1 0 (wkdI (L.drop 5)) := by
    by_cases hw : wkdI (L.drop 5) = 0
    · rw [day_last0 h5 h hw, show wdE (L.drop 5) = 2 from if_pos hw]; rfl
    · rw [day_last h5 h hw, show wdE (L.drop 5) = 0 from if_neg hw]; rfl
  have X1 := fun w => grow2 (cutLast_p L w)
  have ec : cpL L lastL = L.drop 5 := if_pos h
  rw [ec, decide_eq_true h] at X1
  have H1 := Lib.hid X1
  have H2 := Lib.hid (pWeekday14_any (L.drop 5))
  have H3 := Lib.hid (pUnless_any (wdE (L.drop 5)) 1 0 (wkdI (L.drop 5)))
  rw [eD]
  clear X1 ec h eD h5
  replace hM := Lib.hid hM
  generalize unR (wdE (L.drop 5)) 1 0 (wkdI (L.drop 5)) = R at *
  generalize wdE (L.drop 5) = we at *
  generalize wkdI (L.drop 5) = wv at *
  generalize L.drop 5 = T at *
  go_enter Tryz.func137, Tryz.ntmps137
  refine wp_shut ?_
  go_wp2_with fail
  
  refine (H1.out _).mono ?_
  rintro e V1 ⟨rfl, hb1⟩
  have B1 := nby hb1
  have Z1 := Lib.hid (row_call hb1 (heap_alloc_new _ _))
  clear hb1
  obtain ⟨Z1_0, Z1_1, Z1_2⟩ := qw3 Z1
  have Z1_f0 : V1.frozen? ⟨w.heap.size, 0, none⟩ = false := by simp [World.frozen?, Z1.out]
  have Z1_f1 : V1.frozen? ⟨w.heap.size, 1, none⟩ = false := by simp [World.frozen?, Z1.out]
  have Z1_f2 : V1.frozen? ⟨w.heap.size, 2, none⟩ = false := by simp [World.frozen?, Z1.out]
  have zZ1 := lt_of_heap Z1.out
  go_simp
  go_wp2_with fail
  refine (H2.out _ (by first | exact tw_keep hM (B1.out) | exact tw_keep hM ((B1.out).alloc (B1.out.size) _) | exact tw_keep hM (((B1.out).alloc (B1.out.size) _).alloc (by have := B1.out.size; simp <;> omega) _) | exact tw_keep hM ((((B1.out).alloc (B1.out.size) _).alloc (by have := B1.out.size; simp <;> omega) _).alloc (by have := B1.out.size; simp <;> omega) _))).mono ?_
  rintro e V2 ⟨rfl, hb2⟩
  clear Z1_0 Z1_1 Z1_2 Z1_f0 Z1_f1 Z1_f2 zZ1
  have B2 : Hid (Below w.heap.size w V2) := nbx B1 hb2
  replace Z1 := rcx hb2 Z1
  clear hb2
  obtain ⟨Z1_0, Z1_1, Z1_2⟩ := qw3 Z1
  have Z1_f0 : V2.frozen? ⟨w.heap.size, 0, none⟩ = false := by simp [World.frozen?, Z1.out]
  have Z1_f1 : V2.frozen? ⟨w.heap.size, 1, none⟩ = false := by simp [World.frozen?, Z1.out]
  have Z1_f2 : V2.frozen? ⟨w.heap.size, 2, none⟩ = false := by simp [World.frozen?, Z1.out]
  have zZ1 := lt_of_heap Z1.out
  go_simp
  go_wp2_with fail
  refine (H3.out _).mono ?_
  rintro e V3 ⟨rfl, hb3⟩
  clear Z1_0 Z1_1 Z1_2 Z1_f0 Z1_f1 Z1_f2 zZ1
  have B3 : Hid (Below w.heap.size w V3) := nbx B2 hb3
  replace Z1 := rcx hb3 Z1
  clear hb3
  obtain ⟨Z1_0, Z1_1, Z1_2⟩ := qw3 Z1
  have Z1_f0 : V3.frozen? ⟨w.heap.size, 0, none⟩ = false := by simp [World.frozen?, Z1.out]
  have Z1_f1 : V3.frozen? ⟨w.heap.size, 1, none⟩ = false := by simp [World.frozen?, Z1.out]
  have Z1_f2 : V3.frozen? ⟨w.heap.size, 2, none⟩ = false := by simp [World.frozen?, Z1.out]
  have zZ1 := lt_of_heap Z1.out
  go_simp
  go_wp2
  refine shut_ret (v := .tuple #[.agg #[.int .i64 R.1, .int .i64 R.2.1, .int .i64 R.2.2.1], .int .i64 R.2.2.2]) (by simp [results, Tryz.results137, go_sem, zZ1, Z1_0, Z1_1, Z1_2]) rfl ⟨rfl, ?_⟩
  first | exact keep3 B3.out (Nat.le_refl _) _ _ _ | exact keepA (keep3 B3.out (Nat.le_refl _) _ _ _) _
theorem index_or (t s : List UInt8) : Lib.index t s = -1 ∨ ∃ i : Nat, Lib.index t s = (i : Int) := by
  rcases Lib.index_spec t s with ⟨h, _⟩ | ⟨i, h, _⟩
  · exact Or.inl h
  · exact Or.inr ⟨i, h⟩
set_option maxHeartbeats 3200000 in
set_option maxRecDepth 100000 in
theorem day_f (L : List UInt8) (hL : L.length ≤ 100000) (h : ¬ L.take 5 = lastL) (i : Nat) (hi : Lib.index L [62, 61] = (i : Int)) (w : World) (hM : TW w) : Calls Tryz.prog 137 #[.string (bs L)] w fun e w' => e = .returned (.tuple #[.agg #[.int .i64 (dayR L).1, .int .i64 (dayR L).2.1, .int .i64 (dayR L).2.2.1], .int .i64 (dayR L).2.2.2]) ∧ Below w.heap.size w w' := by
  have eD := day_first h hi
  have X1 := fun w => grow2 (cutLast_p L w)
  rw [decide_eq_false h] at X1
  have X2 := cutFrom_any L hL
  rw [cut_some hi, show [(62 : UInt8), 61].length = 2 from rfl] at X2
  have H1 := Lib.hid X1
  have H2 := Lib.hid X2
  have H3 := Lib.hid (pBound_any 2 (L.take i) (L.drop (i + 2)) (by simp; omega))
  rw [eD]
  clear X1 X2 h eD hi
  replace hM := Lib.hid hM
  generalize bndR 2 (L.take i) (L.drop (i + 2)) = R at *
  generalize L.take i = Ta at *
  generalize L.drop (i + 2) = Tb at *
  generalize cpL L lastL = Tc at *
  go_enter Tryz.func137, Tryz.ntmps137
  refine wp_shut ?_
  go_wp2_with fail
  
  refine (H1.out _).mono ?_
  rintro e V1 ⟨rfl, hb1⟩
  have B1 := nby hb1
  have Z1 := Lib.hid (row_call hb1 (heap_alloc_new _ _))
  clear hb1
  obtain ⟨Z1_0, Z1_1, Z1_2⟩ := qw3 Z1
  have Z1_f0 : V1.frozen? ⟨w.heap.size, 0, none⟩ = false := by simp [World.frozen?, Z1.out]
  have Z1_f1 : V1.frozen? ⟨w.heap.size, 1, none⟩ = false := by simp [World.frozen?, Z1.out]
  have Z1_f2 : V1.frozen? ⟨w.heap.size, 2, none⟩ = false := by simp [World.frozen?, Z1.out]
  have zZ1 := lt_of_heap Z1.out
  go_simp
  go_wp2_with fail
  refine (H2.out _ (by first | exact tw_keep hM (B1.out) | exact tw_keep hM ((B1.out).alloc (B1.out.size) _) | exact tw_keep hM (((B1.out).alloc (B1.out.size) _).alloc (by have := B1.out.size; simp <;> omega) _) | exact tw_keep hM ((((B1.out).alloc (B1.out.size) _).alloc (by have := B1.out.size; simp <;> omega) _).alloc (by have := B1.out.size; simp <;> omega) _))).mono ?_
  rintro e V2 ⟨rfl, hb2⟩
  clear Z1_0 Z1_1 Z1_2 Z1_f0 Z1_f1 Z1_f2 zZ1
  have B2 : Hid (Below w.heap.size w V2) := nbx B1 hb2
  replace Z1 := rcx hb2 Z1
  clear hb2
  obtain ⟨Z1_0, Z1_1, Z1_2⟩ := qw3 Z1
  have Z1_f0 : V2.frozen? ⟨w.heap.size, 0, none⟩ = false := by simp [World.frozen?, Z1.out]
  have Z1_f1 : V2.frozen? ⟨w.heap.size, 1, none⟩ = false := by simp [World.frozen?, Z1.out]
  have Z1_f2 : V2.frozen? ⟨w.heap.size, 2, none⟩ = false := by simp [World.frozen?, Z1.out]
  have zZ1 := lt_of_heap Z1.out
  go_simp
  go_wp2_with fail
  refine (H3.out _ (by first | exact tw_keep hM (B2.out) | exact tw_keep hM ((B2.out).alloc (B2.out.size) _) | exact tw_keep hM (((B2.out).alloc (B2.out.size) _).alloc (by have := B2.out.size; simp <;> omega) _) | exact tw_keep hM ((((B2.out).alloc (B2.out.size) _).alloc (by have := B2.out.size; simp <;> omega) _).alloc (by have := B2.out.size; simp <;> omega) _))).mono ?_
  rintro e V3 ⟨rfl, hb3⟩
  clear Z1_0 Z1_1 Z1_2 Z1_f0 Z1_f1 Z1_f2 zZ1
  have B3 : Hid (Below w.heap.size w V3) := nbx B2 hb3
  replace Z1 := rcx hb3 Z1
  clear hb3
  obtain ⟨Z1_0, Z1_1, Z1_2⟩ := qw3 Z1
  have Z1_f0 : V3.frozen? ⟨w.heap.size, 0, none⟩ = false := by simp [World.frozen?, Z1.out]
  have Z1_f1 : V3.frozen? ⟨w.heap.size, 1, none⟩ = false := by simp [World.frozen?, Z1.out]
  have Z1_f2 : V3.frozen? ⟨w.heap.size, 2, none⟩ = false := by simp [World.frozen?, Z1.out]
  have zZ1 := lt_of_heap Z1.out
  go_simp
  go_wp2
  refine shut_ret (v := .tuple #[.agg #[.int .i64 R.1, .int .i64 R.2.1, .int .i64 R.2.2.1], .int .i64 R.2.2.2]) (by simp [results, Tryz.results137, go_sem, zZ1, Z1_0, Z1_1, Z1_2]) rfl ⟨rfl, ?_⟩
  first | exact keep3 B3.out (Nat.le_refl _) _ _ _ | exact keepA (keep3 B3.out (Nat.le_refl _) _ _ _) _
set_option maxHeartbeats 3200000 in
set_option maxRecDepth 100000 in
theorem day_b (L : List UInt8) (hL : L.length ≤ 100000) (h : ¬ L.take 5 = lastL) (hF : Lib.index L [62, 61] = -1) (i : Nat) (hi : Lib.index L [60, 61] = (i : Int)) (w : World) (hM : TW w) : Calls Tryz.prog 137 #[.string (bs L)] w fun e w' => e = .returned (.tuple #[.agg #[.int .i64 (dayR L).1, .int .i64 (dayR L).2.1, .int .i64 (dayR L).2.2.1], .int .i64 (dayR L).2.2.2]) ∧ Below w.heap.size w w' := by
  have eD := day_second h hF hi
  have X1 := fun w => grow2 (cutLast_p L w)
  rw [decide_eq_false h] at X1
  have X2 := cutFrom_any L hL
  rw [cut_none hF] at X2
  have X4 := cutBef_any L hL
  rw [cut_some hi, show [(60 : UInt8), 61].length = 2 from rfl] at X4
  have H1 := Lib.hid X1
  have H2 := Lib.hid X2
  have H4 := Lib.hid X4
  have H3 := Lib.hid (pBound_any 3 (L.take i) (L.drop (i + 2)) (by simp; omega))
  rw [eD]
  clear X1 X2 X4 h eD hi hF
  replace hM := Lib.hid hM
  generalize bndR 3 (L.take i) (L.drop (i + 2)) = R at *
  generalize L.take i = Ta at *
  generalize L.drop (i + 2) = Tb at *
  generalize cpL L lastL = Tc at *
  go_enter Tryz.func137, Tryz.ntmps137
  refine wp_shut ?_
  go_wp2_with fail
  
  refine (H1.out _).mono ?_
  rintro e V1 ⟨rfl, hb1⟩
  have B1 := nby hb1
  have Z1 := Lib.hid (row_call hb1 (heap_alloc_new _ _))
  clear hb1
  obtain ⟨Z1_0, Z1_1, Z1_2⟩ := qw3 Z1
  have Z1_f0 : V1.frozen? ⟨w.heap.size, 0, none⟩ = false := by simp [World.frozen?, Z1.out]
  have Z1_f1 : V1.frozen? ⟨w.heap.size, 1, none⟩ = false := by simp [World.frozen?, Z1.out]
  have Z1_f2 : V1.frozen? ⟨w.heap.size, 2, none⟩ = false := by simp [World.frozen?, Z1.out]
  have zZ1 := lt_of_heap Z1.out
  go_simp
  go_wp2_with fail
  refine (H2.out _ (by first | exact tw_keep hM (B1.out) | exact tw_keep hM ((B1.out).alloc (B1.out.size) _) | exact tw_keep hM (((B1.out).alloc (B1.out.size) _).alloc (by have := B1.out.size; simp <;> omega) _) | exact tw_keep hM ((((B1.out).alloc (B1.out.size) _).alloc (by have := B1.out.size; simp <;> omega) _).alloc (by have := B1.out.size; simp <;> omega) _))).mono ?_
  rintro e V2 ⟨rfl, hb2⟩
  clear Z1_0 Z1_1 Z1_2 Z1_f0 Z1_f1 Z1_f2 zZ1
  have B2 : Hid (Below w.heap.size w V2) := nbx B1 hb2
  replace Z1 := rcx hb2 Z1
  clear hb2
  obtain ⟨Z1_0, Z1_1, Z1_2⟩ := qw3 Z1
  have Z1_f0 : V2.frozen? ⟨w.heap.size, 0, none⟩ = false := by simp [World.frozen?, Z1.out]
  have Z1_f1 : V2.frozen? ⟨w.heap.size, 1, none⟩ = false := by simp [World.frozen?, Z1.out]
  have Z1_f2 : V2.frozen? ⟨w.heap.size, 2, none⟩ = false := by simp [World.frozen?, Z1.out]
  have zZ1 := lt_of_heap Z1.out
  go_simp
  go_wp2_with fail
  refine (H4.out _ (by first | exact tw_keep hM (B2.out) | exact tw_keep hM ((B2.out).alloc (B2.out.size) _) | exact tw_keep hM (((B2.out).alloc (B2.out.size) _).alloc (by have := B2.out.size; simp <;> omega) _) | exact tw_keep hM ((((B2.out).alloc (B2.out.size) _).alloc (by have := B2.out.size; simp <;> omega) _).alloc (by have := B2.out.size; simp <;> omega) _))).mono ?_
  rintro e V3 ⟨rfl, hb3⟩
  clear Z1_0 Z1_1 Z1_2 Z1_f0 Z1_f1 Z1_f2 zZ1
  have B3 : Hid (Below w.heap.size w V3) := nbx B2 hb3
  replace Z1 := rcx hb3 Z1
  clear hb3
  obtain ⟨Z1_0, Z1_1, Z1_2⟩ := qw3 Z1
  have Z1_f0 : V3.frozen? ⟨w.heap.size, 0, none⟩ = false := by simp [World.frozen?, Z1.out]
  have Z1_f1 : V3.frozen? ⟨w.heap.size, 1, none⟩ = false := by simp [World.frozen?, Z1.out]
  have Z1_f2 : V3.frozen? ⟨w.heap.size, 2, none⟩ = false := by simp [World.frozen?, Z1.out]
  have zZ1 := lt_of_heap Z1.out
  go_simp
  go_wp2_with fail
  refine (H3.out _ (by first | exact tw_keep hM (B3.out) | exact tw_keep hM ((B3.out).alloc (B3.out.size) _) | exact tw_keep hM (((B3.out).alloc (B3.out.size) _).alloc (by have := B3.out.size; simp <;> omega) _) | exact tw_keep hM ((((B3.out).alloc (B3.out.size) _).alloc (by have := B3.out.size; simp <;> omega) _).alloc (by have := B3.out.size; simp <;> omega) _))).mono ?_
  rintro e V4 ⟨rfl, hb4⟩
  clear Z1_0 Z1_1 Z1_2 Z1_f0 Z1_f1 Z1_f2 zZ1
  have B4 : Hid (Below w.heap.size w V4) := nbx B3 hb4
  replace Z1 := rcx hb4 Z1
  clear hb4
  obtain ⟨Z1_0, Z1_1, Z1_2⟩ := qw3 Z1
  have Z1_f0 : V4.frozen? ⟨w.heap.size, 0, none⟩ = false := by simp [World.frozen?, Z1.out]
  have Z1_f1 : V4.frozen? ⟨w.heap.size, 1, none⟩ = false := by simp [World.frozen?, Z1.out]
  have Z1_f2 : V4.frozen? ⟨w.heap.size, 2, none⟩ = false := by simp [World.frozen?, Z1.out]
  have zZ1 := lt_of_heap Z1.out
  go_simp
  go_wp2
  refine shut_ret (v := .tuple #[.agg #[.int .i64 R.1, .int .i64 R.2.1, .int .i64 R.2.2.1], .int .i64 R.2.2.2]) (by simp [results, Tryz.results137, go_sem, zZ1, Z1_0, Z1_1, Z1_2]) rfl ⟨rfl, ?_⟩
  first | exact keep3 B4.out (Nat.le_refl _) _ _ _ | exact keepA (keep3 B4.out (Nat.le_refl _) _ _ _) _
set_option maxHeartbeats 3200000 in
set_option maxRecDepth 100000 in
theorem day_n (L : List UInt8) (hL : L.length ≤ 100000) (h : ¬ L.take 5 = lastL) (hF : Lib.index L [62, 61] = -1) (hB : Lib.index L [60, 61] = -1) (w : World) (hM : TW w) : Calls Tryz.prog 137 #[.string (bs L)] w fun e w' => e = .returned (.tuple #[.agg #[.int .i64 (dayR L).1, .int .i64 (dayR L).2.1, .int .i64 (dayR L).2.2.1], .int .i64 (dayR L).2.2.2]) ∧ Below w.heap.size w w' := by
  have eD : dayR L = unR (numE L 1 31) 0 (numV L 1 31) 0 := day_none h hF hB
  have X1 := fun w => grow2 (cutLast_p L w)
  rw [decide_eq_false h] at X1
  have X2 := cutFrom_any L hL
  rw [cut_none hF] at X2
  have X4 := cutBef_any L hL
  rw [cut_none hB] at X4
  have H1 := Lib.hid X1
  have H2 := Lib.hid X2
  have H4 := Lib.hid X4
  have H5 := Lib.hid (pNum14_any L 1 31 hL)
  have H3 := Lib.hid (pUnless_any (numE L 1 31) 0 (numV L 1 31) 0)
  rw [eD]
  clear X1 X2 X4 h eD hF hB
  replace hM := Lib.hid hM
  generalize unR (numE L 1 31) 0 (numV L 1 31) 0 = R at *
  generalize numE L 1 31 = ne at *
  generalize numV L 1 31 = nv at *
  generalize cpL L lastL = Tc at *
  go_enter Tryz.func137, Tryz.ntmps137
  refine wp_shut ?_
  go_wp2_with fail
  
  refine (H1.out _).mono ?_
  rintro e V1 ⟨rfl, hb1⟩
  have B1 := nby hb1
  have Z1 := Lib.hid (row_call hb1 (heap_alloc_new _ _))
  clear hb1
  obtain ⟨Z1_0, Z1_1, Z1_2⟩ := qw3 Z1
  have Z1_f0 : V1.frozen? ⟨w.heap.size, 0, none⟩ = false := by simp [World.frozen?, Z1.out]
  have Z1_f1 : V1.frozen? ⟨w.heap.size, 1, none⟩ = false := by simp [World.frozen?, Z1.out]
  have Z1_f2 : V1.frozen? ⟨w.heap.size, 2, none⟩ = false := by simp [World.frozen?, Z1.out]
  have zZ1 := lt_of_heap Z1.out
  go_simp
  go_wp2_with fail
  refine (H2.out _ (by first | exact tw_keep hM (B1.out) | exact tw_keep hM ((B1.out).alloc (B1.out.size) _) | exact tw_keep hM (((B1.out).alloc (B1.out.size) _).alloc (by have := B1.out.size; simp <;> omega) _) | exact tw_keep hM ((((B1.out).alloc (B1.out.size) _).alloc (by have := B1.out.size; simp <;> omega) _).alloc (by have := B1.out.size; simp <;> omega) _))).mono ?_
  rintro e V2 ⟨rfl, hb2⟩
  clear Z1_0 Z1_1 Z1_2 Z1_f0 Z1_f1 Z1_f2 zZ1
  have B2 : Hid (Below w.heap.size w V2) := nbx B1 hb2
  replace Z1 := rcx hb2 Z1
  clear hb2
  obtain ⟨Z1_0, Z1_1, Z1_2⟩ := qw3 Z1
  have Z1_f0 : V2.frozen? ⟨w.heap.size, 0, none⟩ = false := by simp [World.frozen?, Z1.out]
  have Z1_f1 : V2.frozen? ⟨w.heap.size, 1, none⟩ = false := by simp [World.frozen?, Z1.out]
  have Z1_f2 : V2.frozen? ⟨w.heap.size, 2, none⟩ = false := by simp [World.frozen?, Z1.out]
  have zZ1 := lt_of_heap Z1.out
  go_simp
  go_wp2_with fail
  refine (H4.out _ (by first | exact tw_keep hM (B2.out) | exact tw_keep hM ((B2.out).alloc (B2.out.size) _) | exact tw_keep hM (((B2.out).alloc (B2.out.size) _).alloc (by have := B2.out.size; simp <;> omega) _) | exact tw_keep hM ((((B2.out).alloc (B2.out.size) _).alloc (by have := B2.out.size; simp <;> omega) _).alloc (by have := B2.out.size; simp <;> omega) _))).mono ?_
  rintro e V3 ⟨rfl, hb3⟩
  clear Z1_0 Z1_1 Z1_2 Z1_f0 Z1_f1 Z1_f2 zZ1
  have B3 : Hid (Below w.heap.size w V3) := nbx B2 hb3
  replace Z1 := rcx hb3 Z1
  clear hb3
  obtain ⟨Z1_0, Z1_1, Z1_2⟩ := qw3 Z1
  have Z1_f0 : V3.frozen? ⟨w.heap.size, 0, none⟩ = false := by simp [World.frozen?, Z1.out]
  have Z1_f1 : V3.frozen? ⟨w.heap.size, 1, none⟩ = false := by simp [World.frozen?, Z1.out]
  have Z1_f2 : V3.frozen? ⟨w.heap.size, 2, none⟩ = false := by simp [World.frozen?, Z1.out]
  have zZ1 := lt_of_heap Z1.out
  go_simp
  go_wp2_with fail
  refine (H5.out _).mono ?_
  rintro e V4 ⟨rfl, hb4⟩
  clear Z1_0 Z1_1 Z1_2 Z1_f0 Z1_f1 Z1_f2 zZ1
  have B4 : Hid (Below w.heap.size w V4) := nbx B3 hb4
  replace Z1 := rcx hb4 Z1
  clear hb4
  obtain ⟨Z1_0, Z1_1, Z1_2⟩ := qw3 Z1
  have Z1_f0 : V4.frozen? ⟨w.heap.size, 0, none⟩ = false := by simp [World.frozen?, Z1.out]
  have Z1_f1 : V4.frozen? ⟨w.heap.size, 1, none⟩ = false := by simp [World.frozen?, Z1.out]
  have Z1_f2 : V4.frozen? ⟨w.heap.size, 2, none⟩ = false := by simp [World.frozen?, Z1.out]
  have zZ1 := lt_of_heap Z1.out
  go_simp
  go_wp2_with fail
  refine (H3.out _).mono ?_
  rintro e V5 ⟨rfl, hb5⟩
  clear Z1_0 Z1_1 Z1_2 Z1_f0 Z1_f1 Z1_f2 zZ1
  have B5 : Hid (Below w.heap.size w V5) := nbx B4 hb5
  replace Z1 := rcx hb5 Z1
  clear hb5
  obtain ⟨Z1_0, Z1_1, Z1_2⟩ := qw3 Z1
  have Z1_f0 : V5.frozen? ⟨w.heap.size, 0, none⟩ = false := by simp [World.frozen?, Z1.out]
  have Z1_f1 : V5.frozen? ⟨w.heap.size, 1, none⟩ = false := by simp [World.frozen?, Z1.out]
  have Z1_f2 : V5.frozen? ⟨w.heap.size, 2, none⟩ = false := by simp [World.frozen?, Z1.out]
  have zZ1 := lt_of_heap Z1.out
  go_simp
  go_wp2
  refine shut_ret (v := .tuple #[.agg #[.int .i64 R.1, .int .i64 R.2.1, .int .i64 R.2.2.1], .int .i64 R.2.2.2]) (by simp [results, Tryz.results137, go_sem, zZ1, Z1_0, Z1_1, Z1_2]) rfl ⟨rfl, ?_⟩
  first | exact keep3 B5.out (Nat.le_refl _) _ _ _ | exact keepA (keep3 B5.out (Nat.le_refl _) _ _ _) _
theorem pDay_any (L : List UInt8) (hL : L.length ≤ 100000) (w : World) (hM : TW w) : Calls Tryz.prog 137 #[.string (bs L)] w fun e w' => e = .returned (.tuple #[.agg #[.int .i64 (dayR L).1, .int .i64 (dayR L).2.1, .int .i64 (dayR L).2.2.1], .int .i64 (dayR L).2.2.2]) ∧ Below w.heap.size w w' := by
  by_cases h : L.take 5 = lastL
  · exact day_l L hL h w hM
  · rcases index_or L [62, 61] with hF | ⟨i, hi⟩
    · rcases index_or L [60, 61] with hB | ⟨i, hi⟩
      · exact day_n L hL h hF hB w hM
      · exact day_b L hL h hF i hi w hM
    · exact day_f L hL h i hi w hM
end Go.Proofs.YtafecnlaodgmkaaGreatDoor
namespace Go.Proofs.YtafecnlaodgmkaaGreatDoor
set_option linter.unusedVariables false
open Go.ChangeShapes Go.WideShapes Go.ChangeAt Go.RowKit
theorem gDN : Tryz.prog.globalNamed "analemma/words.dayNames" = some 2 := by kernel_rfl
theorem tDN : (Tryz.prog.globals[2]?).map (·.type) = some 168 := by kernel_rfl
theorem cDN : Tryz.prog.cellsOf 168 = 7 := by kernel_rfl
theorem cStr : Tryz.prog.cellsOf 9 = 1 := by kernel_rfl
theorem ml_of_shaped {W : World} (h : W.ShapedOpen Tryz.prog) : ML W := by
  obtain ⟨m, hm⟩ := cell_of_shapedOpen_int (g := 3) (t := 3) (zero := #[.int .i64 0]) (k := .i64) h (of_decide_eq_true (by kernel_rfl)) (by kernel_rfl) rfl (by kernel_rfl) (by kernel_rfl) Tryz.underlying3
  exact ⟨⟨m, hm⟩, World.block_lt_of_cell? W ⟨3, 0, none⟩ hm⟩
end Go.Proofs.YtafecnlaodgmkaaGreatDoor
