/- Several texts in one: WpB. -/
import Derived.Test.YtlbeolialpmnmaaDoorZWpA1
import Derived.BigQuiet
namespace Go.Proofs.YtlbeolialpmnmaaDoor
set_option linter.unusedVariables false
set_option linter.unusedSimpArgs false
open Go.ChangeShapes Go.WideShapes Go.ChangeAt Go.RowKit
@[irreducible] def dgN (c : Nat) : Bool := decide (48 ≤ c) && decide (c ≤ 57)
theorem dgN_yes {c : Nat} (h : 48 ≤ c) (h2 : c ≤ 57) : dgN c = true := by unfold dgN; simp; omega
theorem dgN_no {c : Nat} (h : c < 48 ∨ 57 < c) : dgN c = false := by unfold dgN; simp; omega
theorem dgB_dgN (c : UInt8) : dgB c = dgN c.toNat := by unfold dgB dgN; rfl
theorem nam_of (c : Nat) : namN c = (letN c || dgN c || c == 95 || c == 45 || c == 47) := by unfold namN dgN; rfl
set_option maxHeartbeats 1600000 in
theorem pDigit_p (c : Nat) (w : World) : Calls Tryd.prog 52 #[.int .u8 (c : Int)] w fun e w' => e = .returned (.bool (dgN c)) ∧ w = w' := by
  have hc : c < 48 ∨ (48 ≤ c ∧ c ≤ 57) ∨ 57 < c := by omega
  rcases hc with h | ⟨h, h2⟩ | h
  · have E := Lib.hid (dgN_no (Or.inl h))
    go_enter Tryd.func52, Tryd.ntmps52
    go_wp2
    go_ret
    exact ⟨by rw [E.out]; first | rfl | (simp; omega), rfl⟩
  · have E := Lib.hid (dgN_yes h h2)
    go_enter Tryd.func52, Tryd.ntmps52
    go_wp2
    go_ret
    exact ⟨by rw [E.out]; first | rfl | (simp; omega), rfl⟩
  · have E := Lib.hid (dgN_no (Or.inr h))
    go_enter Tryd.func52, Tryd.ntmps52
    go_wp2
    go_ret
    exact ⟨by rw [E.out]; first | rfl | (simp; omega), rfl⟩
set_option maxHeartbeats 1600000 in
theorem pLetter_p (c : Nat) (w : World) : Calls Tryd.prog 46 #[.int .u8 (c : Int)] w fun e w' => e = .returned (.bool (letN c)) ∧ w = w' := by
  rcases let_cases c with ⟨h, E⟩ | ⟨⟨h, h2⟩, E⟩ | ⟨⟨h, h2⟩, E⟩ | ⟨⟨h, h2⟩, E⟩ | ⟨h, E⟩
  all_goals
    replace E := Lib.hid E
    go_enter Tryd.func46, Tryd.ntmps46
    go_wp2
    go_ret
    exact ⟨by rw [E.out]; first | rfl | (simp; omega), rfl⟩
set_option maxHeartbeats 1600000 in
theorem pNameByte_p (c : Nat) (w : World) : Calls Tryd.prog 48 #[.int .u8 (c : Int)] w fun e w' => e = .returned (.bool (namN c)) ∧ w = w' := by
  have H := fun w => pLetter_p c w
  have H2 := fun w => pDigit_p c w
  have E := nam_of c
  have q1 : ((c : Int) == 95) = (c == 95) := by rw [Bool.eq_iff_iff]; simp; omega
  have q2 : ((c : Int) == 45) = (c == 45) := by rw [Bool.eq_iff_iff]; simp; omega
  have q3 : ((c : Int) == 47) = (c == 47) := by rw [Bool.eq_iff_iff]; simp; omega
  generalize (c == 95) = x1 at *
  generalize (c == 45) = x2 at *
  generalize (c == 47) = x3 at *
  cases h1 : letN c
  · cases h2 : dgN c
    · rw [h1] at H
      rw [h2] at H2
      rw [h1, h2] at E
      replace H := Lib.hid H
      replace H2 := Lib.hid H2
      replace h1 := Lib.hid h1
      replace h2 := Lib.hid h2
      replace E := Lib.hid E
      cases x1 <;> cases x2 <;> cases x3
      all_goals
        go_enter Tryd.func48, Tryd.ntmps48
        go_wp2_with fail
        refine (H.out _).mono ?_
        rintro e w1 ⟨rfl, rfl⟩
        go_wp2_with fail
        refine (H2.out _).mono ?_
        rintro e w1 ⟨rfl, rfl⟩
        go_wp2
        go_ret
        exact ⟨by rw [E.out]; rfl, rfl⟩
    · rw [h1] at H
      rw [h2] at H2
      rw [h1, h2] at E
      replace H := Lib.hid H
      replace H2 := Lib.hid H2
      replace h1 := Lib.hid h1
      replace h2 := Lib.hid h2
      replace E := Lib.hid E
      clear q1 q2 q3
      go_enter Tryd.func48, Tryd.ntmps48
      go_wp2_with fail
      refine (H.out _).mono ?_
      rintro e w1 ⟨rfl, rfl⟩
      go_wp2_with fail
      refine (H2.out _).mono ?_
      rintro e w1 ⟨rfl, rfl⟩
      go_wp2
      go_ret
      exact ⟨by rw [E.out]; rfl, rfl⟩
  · rw [h1] at H
    rw [h1] at E
    replace H := Lib.hid H
    replace h1 := Lib.hid h1
    replace E := Lib.hid E
    clear q1 q2 q3 H2
    go_enter Tryd.func48, Tryd.ntmps48
    go_wp2_with fail
    refine (H.out _).mono ?_
    rintro e w1 ⟨rfl, rfl⟩
    go_wp2
    go_ret
    exact ⟨by rw [E.out]; rfl, rfl⟩
def mdA (p : Nat → Bool) (L : List UInt8) : Bool := L.all (fun c => p c.toNat)
@[irreducible] def mdE (p : Nat → Bool) (L : List UInt8) (n : Int) : Int := if 1 ≤ L.length ∧ (L.length : Int) ≤ n ∧ mdA p L = true then 0 else 2
theorem mdE_ok {p : Nat → Bool} {L : List UInt8} {n : Int} (h : 1 ≤ L.length ∧ (L.length : Int) ≤ n ∧ mdA p L = true) : mdE p L n = 0 := by unfold mdE; exact if_pos h
theorem mdE_no {p : Nat → Bool} {L : List UInt8} {n : Int} (h : ¬ (1 ≤ L.length ∧ (L.length : Int) ≤ n ∧ mdA p L = true)) : mdE p L n = 2 := by unfold mdE; exact if_neg h
set_option maxHeartbeats 1600000 in
set_option maxRecDepth 100000 in
theorem pMade_digit (L : List UInt8) (n : Int) (hL : L.length ≤ 9223372036854775807) (w : World) : Calls Tryd.prog 45 #[.string (bs L), .int .i64 n, .func (.func 52) #[] #[]] w fun e w' => e = .returned (.int .i64 (mdE dgN L n)) ∧ w = w' := by
  have hS := bs_size L
  have H := Lib.hid pDigit_p
  by_cases h1 : L.length < 1
  · have E := Lib.hid (mdE_no (p := dgN) (L := L) (n := n) (by omega))
    have q1 : decide ((L.length : Int) < 1) = true := decide_eq_true (by omega)
    go_enter Tryd.func45, Tryd.ntmps45
    go_wp2
    go_ret
    exact ⟨by rw [E.out]; try rfl, rfl⟩
  by_cases h2 : n < (L.length : Int)
  · have E := Lib.hid (mdE_no (p := dgN) (L := L) (n := n) (by omega))
    have q1 : decide ((L.length : Int) < 1) = false := decide_eq_false (by omega)
    have q2 : decide (n < (L.length : Int)) = true := decide_eq_true h2
    go_enter Tryd.func45, Tryd.ntmps45
    go_wp2
    go_ret
    exact ⟨by rw [E.out]; try rfl, rfl⟩
  have q1 : decide ((L.length : Int) < 1) = false := decide_eq_false (by omega)
  have q2 : decide (n < (L.length : Int)) = false := decide_eq_false h2
  have F := Lib.hid (fun h => mdE_ok (p := dgN) (L := L) (n := n) ⟨by omega, by omega, h⟩)
  have F2 := Lib.hid (fun h => mdE_no (p := dgN) (L := L) (n := n) (fun x => absurd (x.2.2) h))
  clear h2
  go_enter Tryd.func45, Tryd.ntmps45
  go_wp2
  go_loop [19] (fun i => ∃ k : Nat, k ≤ L.length ∧ i = .int .i64 (k : Int) ∧ mdA dgN (L.take k) = true) (fun i => L.length - (intOf i).toNat)
  case atStart => exact ⟨0, by omega, rfl, rfl⟩
  case round =>
    obtain ⟨k, hk, rfl, hall⟩ := hrel
    by_cases hlt : k < L.length
    · obtain ⟨c, hc⟩ : ∃ c : Nat, L[k].toNat = c := ⟨_, rfl⟩
      have hb := byte_bs L k hlt (by rw [hS]; exact hlt) hc
      have H2 := H.out c
      cases hl : dgN c
      · have E : Hid (mdE dgN L n = 2) := Lib.hid (F2.out (by
          have e : mdA dgN L = false := all_stop hlt (by rw [hc]; exact hl)
          rw [e]; decide))
        rw [hl] at H2
        replace H2 := Lib.hid H2
        replace hl := Lib.hid hl
        replace hc := Lib.hid hc
        replace hall := Lib.hid hall
        go_wp2_with fail
        refine (H2.out _).mono ?_
        rintro e w1 ⟨rfl, rfl⟩
        go_wp2
        go_ret
        exact ⟨by rw [E.out]; try rfl, rfl⟩
      · have E : Hid (mdA dgN (L.take (k + 1)) = true) := Lib.hid (all_take hlt hall (by rw [hc]; exact hl))
        rw [hl] at H2
        replace H2 := Lib.hid H2
        replace hl := Lib.hid hl
        replace hc := Lib.hid hc
        replace hall := Lib.hid hall
        go_wp2_with fail
        refine (H2.out _).mono ?_
        rintro e w1 ⟨rfl, rfl⟩
        go_wp2
        go_round
        case rel => exact ⟨k + 1, by omega, by go_num, E.out⟩
        case measure => simp [intOf]; omega
    · obtain rfl : k = L.length := by omega
      rw [List.take_length] at hall
      have E := Lib.hid (F.out hall)
      clear H
      replace hall := Lib.hid hall
      go_wp2
      go_ret
      exact ⟨by rw [E.out]; try rfl, rfl⟩
set_option maxHeartbeats 1600000 in
set_option maxRecDepth 100000 in
theorem pMade_letter (L : List UInt8) (n : Int) (hL : L.length ≤ 9223372036854775807) (w : World) : Calls Tryd.prog 45 #[.string (bs L), .int .i64 n, .func (.func 46) #[] #[]] w fun e w' => e = .returned (.int .i64 (mdE letN L n)) ∧ w = w' := by
  have hS := bs_size L
  have H := Lib.hid pLetter_p
  by_cases h1 : L.length < 1
  · have E := Lib.hid (mdE_no (p := letN) (L := L) (n := n) (by omega))
    have q1 : decide ((L.length : Int) < 1) = true := decide_eq_true (by omega)
    go_enter Tryd.func45, Tryd.ntmps45
    go_wp2
    go_ret
    exact ⟨by rw [E.out]; try rfl, rfl⟩
  by_cases h2 : n < (L.length : Int)
  · have E := Lib.hid (mdE_no (p := letN) (L := L) (n := n) (by omega))
    have q1 : decide ((L.length : Int) < 1) = false := decide_eq_false (by omega)
    have q2 : decide (n < (L.length : Int)) = true := decide_eq_true h2
    go_enter Tryd.func45, Tryd.ntmps45
    go_wp2
    go_ret
    exact ⟨by rw [E.out]; try rfl, rfl⟩
  have q1 : decide ((L.length : Int) < 1) = false := decide_eq_false (by omega)
  have q2 : decide (n < (L.length : Int)) = false := decide_eq_false h2
  have F := Lib.hid (fun h => mdE_ok (p := letN) (L := L) (n := n) ⟨by omega, by omega, h⟩)
  have F2 := Lib.hid (fun h => mdE_no (p := letN) (L := L) (n := n) (fun x => absurd (x.2.2) h))
  clear h2
  go_enter Tryd.func45, Tryd.ntmps45
  go_wp2
  go_loop [19] (fun i => ∃ k : Nat, k ≤ L.length ∧ i = .int .i64 (k : Int) ∧ mdA letN (L.take k) = true) (fun i => L.length - (intOf i).toNat)
  case atStart => exact ⟨0, by omega, rfl, rfl⟩
  case round =>
    obtain ⟨k, hk, rfl, hall⟩ := hrel
    by_cases hlt : k < L.length
    · obtain ⟨c, hc⟩ : ∃ c : Nat, L[k].toNat = c := ⟨_, rfl⟩
      have hb := byte_bs L k hlt (by rw [hS]; exact hlt) hc
      have H2 := H.out c
      cases hl : letN c
      · have E : Hid (mdE letN L n = 2) := Lib.hid (F2.out (by
          have e : mdA letN L = false := all_stop hlt (by rw [hc]; exact hl)
          rw [e]; decide))
        rw [hl] at H2
        replace H2 := Lib.hid H2
        replace hl := Lib.hid hl
        replace hc := Lib.hid hc
        replace hall := Lib.hid hall
        go_wp2_with fail
        refine (H2.out _).mono ?_
        rintro e w1 ⟨rfl, rfl⟩
        go_wp2
        go_ret
        exact ⟨by rw [E.out]; try rfl, rfl⟩
      · have E : Hid (mdA letN (L.take (k + 1)) = true) := Lib.hid (all_take hlt hall (by rw [hc]; exact hl))
        rw [hl] at H2
        replace H2 := Lib.hid H2
        replace hl := Lib.hid hl
        replace hc := Lib.hid hc
        replace hall := Lib.hid hall
        go_wp2_with fail
        refine (H2.out _).mono ?_
        rintro e w1 ⟨rfl, rfl⟩
        go_wp2
        go_round
        case rel => exact ⟨k + 1, by omega, by go_num, E.out⟩
        case measure => simp [intOf]; omega
    · obtain rfl : k = L.length := by omega
      rw [List.take_length] at hall
      have E := Lib.hid (F.out hall)
      clear H
      replace hall := Lib.hid hall
      go_wp2
      go_ret
      exact ⟨by rw [E.out]; try rfl, rfl⟩
set_option maxHeartbeats 1600000 in
set_option maxRecDepth 100000 in
theorem pMade_nameByte (L : List UInt8) (n : Int) (hL : L.length ≤ 9223372036854775807) (w : World) : Calls Tryd.prog 45 #[.string (bs L), .int .i64 n, .func (.func 48) #[] #[]] w fun e w' => e = .returned (.int .i64 (mdE namN L n)) ∧ w = w' := by
  have hS := bs_size L
  have H := Lib.hid pNameByte_p
  by_cases h1 : L.length < 1
  · have E := Lib.hid (mdE_no (p := namN) (L := L) (n := n) (by omega))
    have q1 : decide ((L.length : Int) < 1) = true := decide_eq_true (by omega)
    go_enter Tryd.func45, Tryd.ntmps45
    go_wp2
    go_ret
    exact ⟨by rw [E.out]; try rfl, rfl⟩
  by_cases h2 : n < (L.length : Int)
  · have E := Lib.hid (mdE_no (p := namN) (L := L) (n := n) (by omega))
    have q1 : decide ((L.length : Int) < 1) = false := decide_eq_false (by omega)
    have q2 : decide (n < (L.length : Int)) = true := decide_eq_true h2
    go_enter Tryd.func45, Tryd.ntmps45
    go_wp2
    go_ret
    exact ⟨by rw [E.out]; try rfl, rfl⟩
  have q1 : decide ((L.length : Int) < 1) = false := decide_eq_false (by omega)
  have q2 : decide (n < (L.length : Int)) = false := decide_eq_false h2
  have F := Lib.hid (fun h => mdE_ok (p := namN) (L := L) (n := n) ⟨by omega, by omega, h⟩)
  have F2 := Lib.hid (fun h => mdE_no (p := namN) (L := L) (n := n) (fun x => absurd (x.2.2) h))
  clear h2
  go_enter Tryd.func45, Tryd.ntmps45
  go_wp2
  go_loop [19] (fun i => ∃ k : Nat, k ≤ L.length ∧ i = .int .i64 (k : Int) ∧ mdA namN (L.take k) = true) (fun i => L.length - (intOf i).toNat)
  case atStart => exact ⟨0, by omega, rfl, rfl⟩
  case round =>
    obtain ⟨k, hk, rfl, hall⟩ := hrel
    by_cases hlt : k < L.length
    · obtain ⟨c, hc⟩ : ∃ c : Nat, L[k].toNat = c := ⟨_, rfl⟩
      have hb := byte_bs L k hlt (by rw [hS]; exact hlt) hc
      have H2 := H.out c
      cases hl : namN c
      · have E : Hid (mdE namN L n = 2) := Lib.hid (F2.out (by
          have e : mdA namN L = false := all_stop hlt (by rw [hc]; exact hl)
          rw [e]; decide))
        rw [hl] at H2
        replace H2 := Lib.hid H2
        replace hl := Lib.hid hl
        replace hc := Lib.hid hc
        replace hall := Lib.hid hall
        go_wp2_with fail
        refine (H2.out _).mono ?_
        rintro e w1 ⟨rfl, rfl⟩
        go_wp2
        go_ret
        exact ⟨by rw [E.out]; try rfl, rfl⟩
      · have E : Hid (mdA namN (L.take (k + 1)) = true) := Lib.hid (all_take hlt hall (by rw [hc]; exact hl))
        rw [hl] at H2
        replace H2 := Lib.hid H2
        replace hl := Lib.hid hl
        replace hc := Lib.hid hc
        replace hall := Lib.hid hall
        go_wp2_with fail
        refine (H2.out _).mono ?_
        rintro e w1 ⟨rfl, rfl⟩
        go_wp2
        go_round
        case rel => exact ⟨k + 1, by omega, by go_num, E.out⟩
        case measure => simp [intOf]; omega
    · obtain rfl : k = L.length := by omega
      rw [List.take_length] at hall
      have E := Lib.hid (F.out hall)
      clear H
      replace hall := Lib.hid hall
      go_wp2
      go_ret
      exact ⟨by rw [E.out]; try rfl, rfl⟩
set_option maxHeartbeats 1600000 in
set_option maxRecDepth 100000 in
theorem pDigits_p (L : List UInt8) (h : L.all dgB = true) (hL : L.length ≤ 17) (w : World) : Calls Tryd.prog 32 #[.string (bs L)] w fun e w' => e = .returned (.int .i64 (dval L : Int)) ∧ w = w' := by
  have hS := bs_size L
  replace h := Lib.hid h
  go_enter Tryd.func32, Tryd.ntmps32
  go_wp2
  go_loop [3, 7] (fun v i => ∃ k : Nat, k ≤ L.length ∧ i = .int .i64 (k : Int) ∧ v = .int .i64 (dval (L.take k) : Int)) (fun _ i => L.length - (intOf i).toNat)
  case atStart => exact ⟨0, by omega, rfl, rfl⟩
  case round =>
    obtain ⟨k, hk, rfl, rfl⟩ := hrel
    by_cases hlt : k < L.length
    · obtain ⟨c, hc⟩ : ∃ c : Nat, L[k].toNat = c := ⟨_, rfl⟩
      have hb := byte_bs L k hlt (by rw [hS]; exact hlt) hc
      have hd := (dgB_iff _).1 (List.all_eq_true.1 h.out _ (List.getElem_mem hlt))
      rw [hc] at hd
      obtain ⟨h48, h57⟩ := hd
      have hall : (L.take k).all dgB = true := by
        rw [List.all_eq_true]; exact fun x hx => List.all_eq_true.1 h.out x (List.mem_of_mem_take hx)
      have hd1 := dval_lt (L.take k) hall
      rw [show (L.take k).length = k by simp; omega] at hd1
      have hd3 := pow_le18 (n := k) (by omega)
      have hds := dval_snoc (L.take k) L[k]
      rw [← take_snoc hlt, hc] at hds
      replace hc := Lib.hid hc
      replace hds := Lib.hid hds
      replace hall := Lib.hid hall
      generalize dval (L.take k) = v at *
      go_wp2
      go_round
      case rel => exact ⟨k + 1, by omega, by go_num, by rw [hds.out]; go_num⟩
      case measure => simp [intOf]; omega
    · obtain rfl : k = L.length := by omega
      rw [List.take_length]
      go_wp2
      go_ret
      exact ⟨by first | rfl | simp, rfl⟩
set_option maxHeartbeats 1600000 in
set_option maxRecDepth 100000 in
theorem pPair_any (n : Int) (h0 : 0 ≤ n) (h1 : n ≤ 99) (w : World) : Calls Tryd.prog 49 #[.int .i64 n] w fun e w' => e = .returned (.string (bs (twoL n))) ∧ Below w.heap.size w w' := by
  have hp0 : 0 ≤ n / 10 := by omega
  have hp9 : n / 10 ≤ 9 := by omega
  have hq0 : 0 ≤ n % 10 := by omega
  have hq9 : n % 10 ≤ 9 := by omega
  have hc := fun w => conv_two w (n / 10) (n % 10) hp0 hp9 hq0 hq9
  have E : Hid (twoL n = [dgt (n / 10), dgt (n % 10)]) := Lib.hid (by unfold twoL; rw [show n / 10 % 10 = n / 10 by omega])
  generalize hp : n / 10 = p at *
  generalize hq : n % 10 = q at *
  have e1 : n.tdiv 10 = p := by rw [Int.tdiv_eq_ediv_of_nonneg h0]; exact hp
  have e3 : n.tmod 10 = q := by rw [Int.tmod_eq_emod_of_nonneg h0]; exact hq
  replace hp := Lib.hid hp
  replace hq := Lib.hid hq
  go_enter Tryd.func49, Tryd.ntmps49
  go_wp2
  go_ret
  exact ⟨by rw [E.out]; try rfl, (Below.refl _ _).alloc (Nat.le_refl _) _⟩
@[irreducible] def tuV (n : Int) (b : Bool) : Int := if b = true then (if n = 0 then 0 else -n) else n
@[irreducible] def tuE (n : Int) (b : Bool) : Int := if b = true ∧ n = 0 then 2 else 0
theorem tu_zero : tuV 0 true = 0 ∧ tuE 0 true = 2 := by unfold tuV tuE; exact ⟨rfl, rfl⟩
theorem tu_neg {n : Int} (h : n ≠ 0) : tuV n true = -n ∧ tuE n true = 0 := by unfold tuV tuE; exact ⟨by rw [if_pos rfl]; exact if_neg h, if_neg (fun x => h x.2)⟩
theorem tu_pos (n : Int) : tuV n false = n ∧ tuE n false = 0 := by unfold tuV tuE; exact ⟨rfl, rfl⟩
set_option maxHeartbeats 1600000 in
theorem pTurned_p (n : Int) (b : Bool) (h0 : 0 ≤ n) (h1 : n ≤ 1000000) (w : World) : Calls Tryd.prog 31 #[.int .i64 n, .bool b] w fun e w' => e = .returned (.tuple #[.int .i64 (tuV n b), .int .i64 (tuE n b)]) ∧ w = w' := by
  cases b
  · have E := Lib.hid (tu_pos n)
    go_enter Tryd.func31, Tryd.ntmps31
    go_wp2
    go_ret2
    exact ⟨by rw [E.out.1, E.out.2]; try rfl, rfl⟩
  · by_cases h : n = 0
    · subst h
      have E := Lib.hid tu_zero
      go_enter Tryd.func31, Tryd.ntmps31
      go_wp2
      go_ret2
      exact ⟨by rw [E.out.1, E.out.2]; try rfl, rfl⟩
    · have E := Lib.hid (tu_neg h)
      have q : (n == 0) = false := by rw [beq_eq_false_iff_ne]; exact h
      replace h := Lib.hid h
      go_enter Tryd.func31, Tryd.ntmps31
      go_wp2
      go_ret2
      exact ⟨by rw [E.out.1, E.out.2]; first | rfl | go_num, rfl⟩
@[irreducible] def wiV (n lo hi : Int) : Int := if n < lo ∨ hi < n then 0 else n
@[irreducible] def wiE (n lo hi : Int) : Int := if n < lo ∨ hi < n then 8 else 0
theorem wi_no {n lo hi : Int} (h : n < lo ∨ hi < n) : wiV n lo hi = 0 ∧ wiE n lo hi = 8 := by unfold wiV wiE; exact ⟨if_pos h, if_pos h⟩
theorem wi_ok {n lo hi : Int} (h : ¬ (n < lo ∨ hi < n)) : wiV n lo hi = n ∧ wiE n lo hi = 0 := by unfold wiV wiE; exact ⟨if_neg h, if_neg h⟩
set_option maxHeartbeats 1600000 in
theorem pWithin_p (n lo hi : Int) (w : World) : Calls Tryd.prog 33 #[.int .i64 n, .int .i64 lo, .int .i64 hi] w fun e w' => e = .returned (.tuple #[.int .i64 (wiV n lo hi), .int .i64 (wiE n lo hi)]) ∧ w = w' := by
  by_cases h1 : n < lo
  · have E := Lib.hid (wi_no (n := n) (lo := lo) (hi := hi) (Or.inl h1))
    have q : decide (n < lo) = true := decide_eq_true h1
    go_enter Tryd.func33, Tryd.ntmps33
    go_wp2
    go_ret2
    exact ⟨by rw [E.out.1, E.out.2]; try rfl, rfl⟩
  · have q : decide (n < lo) = false := decide_eq_false h1
    by_cases h2 : hi < n
    · have E := Lib.hid (wi_no (n := n) (lo := lo) (hi := hi) (Or.inr h2))
      have q2 : decide (hi < n) = true := decide_eq_true h2
      go_enter Tryd.func33, Tryd.ntmps33
      go_wp2
      go_ret2
      exact ⟨by rw [E.out.1, E.out.2]; try rfl, rfl⟩
    · have E := Lib.hid (wi_ok (n := n) (lo := lo) (hi := hi) (by omega))
      have q2 : decide (hi < n) = false := decide_eq_false h2
      go_enter Tryd.func33, Tryd.ntmps33
      go_wp2
      go_ret2
      exact ⟨by rw [E.out.1, E.out.2]; try rfl, rfl⟩
theorem dwn {B : Nat} {a w : World} (h : Below B a w) (n : Nat) : Below B a (w.drewN n) := ⟨h.os, h.tape, h.output, h.size, h.block⟩
set_option maxHeartbeats 3200000 in
set_option maxRecDepth 100000 in
theorem pFormed_any (L F : List UInt8) (hF : F.length ≤ 100) (w : World) : Calls Tryd.prog 37 #[.string (bs L), .string (bs F)] w fun e w' => e = .returned (.bool (frB L F)) ∧ Below w.heap.size w w' := by
  have hS := bs_size L
  have hS2 := bs_size F
  by_cases hl : L.length = F.length
  · have q0 : ((L.length : Int) == (F.length : Int)) = true := by rw [beq_iff_eq]; omega
    have H := Lib.hid pDigit_p
    go_enter Tryd.func37, Tryd.ntmps37
    go_wp2
    go_loopw [13] (fun i wr => ∃ k : Nat, k ≤ F.length ∧ i = .int .i64 (k : Int) ∧ ((L.zip F).take k).all (fun p => frC p.1 p.2) = true ∧ Below w.heap.size w wr) (fun i _ => F.length - (intOf i).toNat)
    case atStart => exact ⟨0, by omega, rfl, rfl, Below.refl _ _⟩
    case round =>
      obtain ⟨k, hk, rfl, hall, hB⟩ := hrel
      replace hB := Lib.hid hB
      by_cases hlt : k < F.length
      · have hltL : k < L.length := by omega
        obtain ⟨c, hc⟩ : ∃ c : Nat, L[k].toNat = c := ⟨_, rfl⟩
        obtain ⟨f, hf⟩ : ∃ f : Nat, F[k].toNat = f := ⟨_, rfl⟩
        have hb := byte_bs L k hltL (by rw [hS]; exact hltL) hc
        have hb2 := byte_bs F k hlt (by rw [hS2]; exact hlt) hf
        have G := fun hh => frB_stop (k := k) hl hltL hh
        have G2 := fun hh => frB_step (k := k) hl hltL hall hh
        have H2 := H.out c
        replace hall := Lib.hid hall
        by_cases h48 : f = 48
        · rw [frC_0 (by omega), dgB_dgN, hc] at G G2
          subst h48
          cases hd : dgN c
          · have E := Lib.hid (G hd)
            rw [hd] at H2
            replace H2 := Lib.hid H2
            replace hd := Lib.hid hd
            replace hc := Lib.hid hc
            replace hf := Lib.hid hf
            clear G G2 H
            go_wp2_with fail
            go_quiet ((go_at_call 52; exact Calls.quiet_of_same ((H2.out _).mono (fun e w1 x => ⟨x.1, x.2.symm⟩))))
            go_wp2
            go_ret
            exact ⟨by rw [E.out]; try rfl, dwn hB.out _⟩
          · have E := Lib.hid (G2 hd)
            rw [hd] at H2
            replace H2 := Lib.hid H2
            replace hd := Lib.hid hd
            replace hc := Lib.hid hc
            replace hf := Lib.hid hf
            clear G G2 H
            go_wp2_with fail
            go_quiet ((go_at_call 52; exact Calls.quiet_of_same ((H2.out _).mono (fun e w1 x => ⟨x.1, x.2.symm⟩))))
            go_wp2
            go_roundw
            case rel => exact ⟨k + 1, by omega, by go_num, E.out, dwn hB.out _⟩
            case measure => simp [intOf]; omega
        · rw [frC_m (by omega), hc, hf] at G G2
          have q48 : ((f : Int) == 48) = false := by rw [beq_eq_false_iff_ne]; omega
          have q49 : ((f : Int) != 48) = true := by rw [bne_iff_ne]; omega
          by_cases hcf : c = f
          · subst hcf
            have E := Lib.hid (G2 (by simp))
            replace hc := Lib.hid hc
            replace hf := Lib.hid hf
            replace h48 := Lib.hid h48
            clear G G2 H H2
            go_wp2_with fail
            go_quiet (fail)
            go_wp2
            go_roundw
            case rel => exact ⟨k + 1, by omega, by go_num, E.out, dwn hB.out _⟩
            case measure => simp [intOf]; omega
          · have E := Lib.hid (G (by simpa using hcf))
            have qcf : ((c : Int) == (f : Int)) = false := by rw [beq_eq_false_iff_ne]; omega
            have qcg : ((c : Int) != (f : Int)) = true := by rw [bne_iff_ne]; omega
            replace hc := Lib.hid hc
            replace hf := Lib.hid hf
            replace h48 := Lib.hid h48
            replace hcf := Lib.hid hcf
            clear G G2 H H2
            go_wp2_with fail
            go_quiet (fail)
            go_wp2
            go_ret
            exact ⟨by rw [E.out]; try rfl, dwn hB.out _⟩
      · obtain rfl : k = F.length := by omega
        rw [← hl] at hall
        have E := Lib.hid (frB_done hl hall)
        replace hall := Lib.hid hall
        clear H
        go_wp2
        go_ret
        exact ⟨by rw [E.out]; try rfl, hB.out⟩
  · have E := Lib.hid (frB_len hl)
    have q0 : ((L.length : Int) == (F.length : Int)) = false := by rw [beq_eq_false_iff_ne]; omega
    replace hl := Lib.hid hl
    go_enter Tryd.func37, Tryd.ntmps37
    go_wp2
    go_ret
    exact ⟨by rw [E.out]; try rfl, Below.refl _ _⟩
theorem lit_of (a : Array UInt8) (l : List UInt8) (h : a.toList = l) : bs l = (⟨a⟩ : ByteArray) := (bs_lit l a h).symm
set_option maxHeartbeats 1600000 in
set_option maxRecDepth 100000 in
theorem hasPre_p (L P : List UInt8) (w : World) : Calls Tryd.prog 59 #[.string (bs L), .string (bs P)] w fun e w' => e = .returned (.bool (decide (L.take P.length = P))) ∧ w = w' := by
  have hS := bs_size L
  have hS2 := bs_size P
  by_cases h : L.length < P.length
  · have E : Hid (decide (L.take P.length = P) = false) := Lib.hid (decide_eq_false (fun e => by
      have e2 := congrArg List.length e
      rw [List.length_take] at e2
      omega))
    have q : decide ((P.length : Int) ≤ (L.length : Int)) = false := decide_eq_false (by omega)
    go_enter Tryd.func59, Tryd.ntmps59
    go_wp2
    go_ret
    exact ⟨by rw [E.out]; try rfl, rfl⟩
  · have hs := fun W => slice_upto L P.length (by omega) (B := (P.length : Int)) rfl W
    have q : decide ((P.length : Int) ≤ (L.length : Int)) = true := decide_eq_true (by omega)
    have e1 := bs_list (L.take P.length)
    have e2 := bs_list P
    have E : Hid (decide (L.take P.length = P) = (L.take P.length == P)) := Lib.hid (by rw [Bool.eq_iff_iff]; simp)
    generalize L.take P.length = T at *
    go_enter Tryd.func59, Tryd.ntmps59
    go_wp2
    go_ret
    exact ⟨by rw [E.out]; try rfl, rfl⟩
def cpL (L P : List UInt8) : List UInt8 := if L.take P.length = P then L.drop P.length else L
set_option maxHeartbeats 1600000 in
set_option maxRecDepth 100000 in
theorem cutPre_p (L P : List UInt8) (w : World) : Calls Tryd.prog 51 #[.string (bs L), .string (bs P)] w fun e w' => e = .returned (.tuple #[.string (bs (cpL L P)), .bool (decide (L.take P.length = P))]) ∧ w = w' := by
  have hS := bs_size L
  have hS2 := bs_size P
  have H := fun w => hasPre_p L P w
  by_cases h : L.take P.length = P
  · have hle : P.length ≤ L.length := by
      have e2 := congrArg List.length h
      rw [List.length_take] at e2
      omega
    have hs := fun W => slice_from L P.length hle (A := (P.length : Int)) rfl W
    have E : Hid (cpL L P = L.drop P.length ∧ decide (L.take P.length = P) = true) := Lib.hid ⟨if_pos h, decide_eq_true h⟩
    rw [E.out.2] at H
    replace H := Lib.hid H
    replace h := Lib.hid h
    go_enter Tryd.func51, Tryd.ntmps51
    go_wp2_with fail
    refine (H.out _).mono ?_
    rintro e w1 ⟨rfl, rfl⟩
    go_wp2
    go_ret2
    exact ⟨by rw [E.out.1, E.out.2]; try rfl, rfl⟩
  · have E : Hid (cpL L P = L ∧ decide (L.take P.length = P) = false) := Lib.hid ⟨if_neg h, decide_eq_false h⟩
    rw [E.out.2] at H
    replace H := Lib.hid H
    replace h := Lib.hid h
    go_enter Tryd.func51, Tryd.ntmps51
    go_wp2_with fail
    refine (H.out _).mono ?_
    rintro e w1 ⟨rfl, rfl⟩
    go_wp2
    go_ret2
    exact ⟨by rw [E.out.1, E.out.2]; try rfl, rfl⟩
set_option maxHeartbeats 1600000 in
theorem sCutPre_p (L P : List UInt8) (w : World) : Calls Tryd.prog 29 #[.string (bs L), .string (bs P)] w fun e w' => e = .returned (.tuple #[.string (bs (cpL L P)), .bool (decide (L.take P.length = P))]) ∧ w = w' := by
  have H := Lib.hid (fun w => cutPre_p L P w)
  go_enter Tryd.func29, Tryd.ntmps29
  go_wp2_with fail
  refine (H.out _).mono ?_
  rintro e w1 ⟨rfl, rfl⟩
  go_wp2
  go_ret2
  exact ⟨by first | rfl | simp, rfl⟩
theorem neg_take (L : List UInt8) : decide (L.take 1 = [45]) = negB L ∧ cpL L [45] = bodyN L := by
  have key : decide (L.take 1 = [45]) = negB L := by
    match L with
    | [] => rfl
    | c :: r =>
      unfold negB
      rw [Bool.eq_iff_iff, decide_eq_true_eq, beq_iff_eq]
      simp
      exact ⟨fun h => by rw [h]; rfl, fun h => UInt8.toNat_inj.1 h⟩
  refine ⟨key, ?_⟩
  unfold cpL bodyN
  cases h : negB L
  · rw [h] at key; rw [if_neg (by simpa using key)]; exact (if_neg (by decide)).symm
  · rw [h] at key; rw [if_pos (by simpa using key)]; exact (if_pos rfl).symm
theorem cutNeg_p (L : List UInt8) (w : World) : Calls Tryd.prog 29 #[.string (bs L), .string ⟨#[45]⟩] w fun e w' => e = .returned (.tuple #[.string (bs (bodyN L)), .bool (negB L)]) ∧ w = w' := by
  have H := sCutPre_p L [45] w
  rw [lit_of #[45] [45] rfl] at H
  rw [(neg_take L).2, show decide (L.take ([45] : List UInt8).length = [45]) = negB L from (neg_take L).1] at H
  exact H
def plsB (L : List UInt8) : Bool := decide (L.take 1 = [43])
theorem cutPls_p (L : List UInt8) (w : World) : Calls Tryd.prog 29 #[.string (bs L), .string ⟨#[43]⟩] w fun e w' => e = .returned (.tuple #[.string (bs (cpL L [43])), .bool (plsB L)]) ∧ w = w' := by
  have H := sCutPre_p L [43] w
  rw [lit_of #[43] [43] rfl] at H
  exact H
theorem cutLast_p (L : List UInt8) (w : World) : Calls Tryd.prog 29 #[.string (bs L), .string ⟨#[108, 97, 115, 116, 45]⟩] w fun e w' => e = .returned (.tuple #[.string (bs (cpL L lastL)), .bool (decide (L.take 5 = lastL))]) ∧ w = w' := by
  have H := sCutPre_p L lastL w
  rw [lit_of #[108, 97, 115, 116, 45] lastL rfl] at H
  exact H
end Go.Proofs.YtlbeolialpmnmaaDoor
