/- Several texts in one: WpG. -/
import Derived.Test.YtlbeolialpmnmaaDoorZWpE1
namespace Go.Proofs.YtlbeolialpmnmaaDoor
set_option linter.unusedVariables false
set_option linter.unusedSimpArgs false
open Go.ChangeShapes Go.WideShapes Go.ChangeAt Go.RowKit
@[irreducible] def seV (t : List UInt8) : Int := if hmsV t < 0 then 0 else hmsV t
@[irreducible] def seE (t : List UInt8) : Int := if hmsV t < 0 then 2 else 0
theorem se_no {t : List UInt8} (h : hmsV t < 0) : seV t = 0 ∧ seE t = 2 := by unfold seV seE; exact ⟨if_pos h, if_pos h⟩
theorem se_ok {t : List UInt8} (h : ¬ hmsV t < 0) : seV t = hmsV t ∧ seE t = 0 := by unfold seV seE; exact ⟨if_neg h, if_neg h⟩
theorem fS_fL {t : List UInt8} (h : frB t fL = true) : frB t fS = false := by
  refine frB_len ?_
  have := frB_length h
  rw [this]; decide
theorem formS_any (t : List UInt8) (w : World) : Calls Tryd.prog 37 #[.string (bs t), .string ⟨#[48, 48, 58, 48, 48]⟩] w fun e w' => e = .returned (.bool (frB t fS)) ∧ Below w.heap.size w w' := by
  have H := pFormed_any t fS (by decide) w
  rw [lit_of #[48, 48, 58, 48, 48] fS rfl] at H
  exact H
theorem formL_any (t : List UInt8) (w : World) : Calls Tryd.prog 37 #[.string (bs t), .string ⟨#[48, 48, 58, 48, 48, 58, 48, 48]⟩] w fun e w' => e = .returned (.bool (frB t fL)) ∧ Below w.heap.size w w' := by
  have H := pFormed_any t fL (by decide) w
  rw [lit_of #[48, 48, 58, 48, 48, 58, 48, 48] fL rfl] at H
  exact H
theorem sub_a (t : List UInt8) (n : Nat) : t.take n = sub t 0 n := rfl
theorem sub_b (t : List UInt8) (a n : Nat) : (t.take (a + n)).drop a = sub t a n := by unfold sub; rw [List.drop_take]; congr 1; omega
theorem sub_c (t : List UInt8) (a n : Nat) (h : t.length = a + n) : t.drop a = sub t a n := by unfold sub; rw [List.take_of_length_le (by simp; omega)]
set_option maxHeartbeats 3200000 in
set_option maxRecDepth 100000 in
theorem secs_5 (t : List UInt8) (h : frB t fS = true) (w : World) : Calls Tryd.prog 35 #[.string (bs t)] w fun e w' => e = .returned (.tuple #[.int .i64 (seV t), .int .i64 (seE t)]) ∧ Below w.heap.size w w' := by
  obtain ⟨k1, k2, b0, b3⟩ := hms_5 h
  obtain ⟨hl, _, a0, a3⟩ := (frS_iff t).1 h
  have hS := bs_size t
  rw [hl] at hS
  have X1 := formS_any t
  rw [h] at X1
  have s2 := fun W => slice_upto t 2 (by omega) (B := 2) rfl W
  have s35 := fun W => slice_bs t 3 5 (by decide) (by omega) (A := 3) (B := 5) rfl rfl W
  rw [sub_a] at s2
  rw [sub_b t 3 2] at s35
  have X3 := fun w => pDigits_p (sub t 0 2) a0 (by unfold sub; simp; omega) w
  have X4 := fun w => pDigits_p (sub t 3 2) a3 (by unfold sub; simp; omega) w
  have H1 := Lib.hid X1
  have H3 := Lib.hid X3
  have H4 := Lib.hid X4
  clear X1 X3 X4 a0 a3 h
  by_cases h59 : dval (sub t 3 2) ≤ 59
  · have E : Hid (seV t = 3600 * (dval (sub t 0 2) : Int) + 60 * (dval (sub t 3 2) : Int) ∧ seE t = 0) := Lib.hid (by
      have e := k1 h59
      rw [← e]; exact se_ok (by omega))
    have q : decide ((59 : Int) < (dval (sub t 3 2) : Int)) = false := decide_eq_false (by omega)
    clear k1 k2
    generalize dval (sub t 0 2) = x at *
    generalize dval (sub t 3 2) = y at *
    generalize sub t 0 2 = T0 at *
    generalize sub t 3 2 = T3 at *
    go_enter Tryd.func35, Tryd.ntmps35
    go_wp2_with fail
    refine (H1.out _).mono ?_
    rintro e w1 ⟨rfl, hb⟩
    replace hb := Lib.hid hb
    go_wp2_with fail
    go_quiet (first | (go_at_call_of 32 (Value.string (bs T0)); exact Calls.quiet_of_same ((H3.out _).mono (fun e w1 x => ⟨x.1, x.2.symm⟩))) | (go_at_call_of 32 (Value.string (bs T3)); exact Calls.quiet_of_same ((H4.out _).mono (fun e w1 x => ⟨x.1, x.2.symm⟩))))
    go_wp2
    go_ret2
    refine ⟨?_, dwn hb.out _⟩
    rw [E.out.1, E.out.2]; try rfl
    first | rfl | go_num | (simp; omega)
  · have E : Hid (seV t = 0 ∧ seE t = 2) := Lib.hid (se_no (by have e := k2 (by omega); omega))
    have q : decide ((59 : Int) < (dval (sub t 3 2) : Int)) = true := decide_eq_true (by omega)
    clear k1 k2
    generalize dval (sub t 0 2) = x at *
    generalize dval (sub t 3 2) = y at *
    generalize sub t 0 2 = T0 at *
    generalize sub t 3 2 = T3 at *
    go_enter Tryd.func35, Tryd.ntmps35
    go_wp2_with fail
    refine (H1.out _).mono ?_
    rintro e w1 ⟨rfl, hb⟩
    replace hb := Lib.hid hb
    go_wp2_with fail
    go_quiet (first | (go_at_call_of 32 (Value.string (bs T0)); exact Calls.quiet_of_same ((H3.out _).mono (fun e w1 x => ⟨x.1, x.2.symm⟩))) | (go_at_call_of 32 (Value.string (bs T3)); exact Calls.quiet_of_same ((H4.out _).mono (fun e w1 x => ⟨x.1, x.2.symm⟩))))
    go_wp2
    go_ret2
    refine ⟨?_, dwn hb.out _⟩
    rw [E.out.1, E.out.2]; try rfl
set_option maxHeartbeats 3200000 in
set_option maxRecDepth 100000 in
theorem secs_8 (t : List UInt8) (h : frB t fL = true) (w : World) : Calls Tryd.prog 35 #[.string (bs t)] w fun e w' => e = .returned (.tuple #[.int .i64 (seV t), .int .i64 (seE t)]) ∧ Below w.heap.size w w' := by
  obtain ⟨k1, k2, b0, b3, b6⟩ := hms_8 h
  obtain ⟨hl, _, a0, a3, a6⟩ := (frL_iff t).1 h
  have hS := bs_size t
  rw [hl] at hS
  have X1 := formS_any t
  rw [fS_fL h] at X1
  have X2 := formL_any t
  rw [h] at X2
  have s2 := fun W => slice_upto t 2 (by omega) (B := 2) rfl W
  have s35 := fun W => slice_bs t 3 5 (by decide) (by omega) (A := 3) (B := 5) rfl rfl W
  have s6 := fun W => slice_from t 6 (by omega) (A := 6) rfl W
  rw [sub_a] at s2
  rw [sub_b t 3 2] at s35
  rw [sub_c t 6 2 hl] at s6
  have X3 := fun w => pDigits_p (sub t 0 2) a0 (by unfold sub; simp; omega) w
  have X4 := fun w => pDigits_p (sub t 3 2) a3 (by unfold sub; simp; omega) w
  have X5 := fun w => pDigits_p (sub t 6 2) a6 (by unfold sub; simp; omega) w
  have H1 := Lib.hid X1
  have H2 := Lib.hid X2
  have H3 := Lib.hid X3
  have H4 := Lib.hid X4
  have H5 := Lib.hid X5
  clear X1 X2 X3 X4 X5 a0 a3 a6 h
  have key : (dval (sub t 3 2) ≤ 59 ∧ dval (sub t 6 2) ≤ 59 ∧ Hid (seV t = 3600 * (dval (sub t 0 2) : Int) + 60 * (dval (sub t 3 2) : Int) + (dval (sub t 6 2) : Int) ∧ seE t = 0)) ∨ ((59 < dval (sub t 3 2) ∨ (dval (sub t 3 2) ≤ 59 ∧ 59 < dval (sub t 6 2))) ∧ Hid (seV t = 0 ∧ seE t = 2)) := by
    by_cases h59 : dval (sub t 3 2) ≤ 59
    · by_cases h60 : dval (sub t 6 2) ≤ 59
      · refine Or.inl ⟨h59, h60, Lib.hid ?_⟩
        have e := k1 h59 h60
        rw [← e]; exact se_ok (by omega)
      · exact Or.inr ⟨Or.inr ⟨h59, by omega⟩, Lib.hid (se_no (by have e := k2 (by omega); omega))⟩
    · exact Or.inr ⟨Or.inl (by omega), Lib.hid (se_no (by have e := k2 (by omega); omega))⟩
  clear k1 k2
  generalize dval (sub t 0 2) = x at *
  generalize dval (sub t 3 2) = y at *
  generalize dval (sub t 6 2) = z at *
  generalize sub t 0 2 = T0 at *
  generalize sub t 3 2 = T3 at *
  generalize sub t 6 2 = T6 at *
  rcases key with ⟨h1, h2, E⟩ | ⟨h1 | ⟨h1, h2⟩, E⟩
  · have q1 : decide ((59 : Int) < (y : Int)) = false := decide_eq_false (by omega)
    have q2 : decide ((59 : Int) < (z : Int)) = false := decide_eq_false (by omega)
    go_enter Tryd.func35, Tryd.ntmps35
    go_wp2_with fail
    refine (H1.out _).mono ?_
    rintro e w1 ⟨rfl, hb⟩
    replace hb := Lib.hid hb
    go_wp2_with fail
    refine (H2.out _).mono ?_
    rintro e w2 ⟨rfl, hb2⟩
    replace hb2 := Lib.hid (hb2.mono hb.out.size)
    go_wp2_with fail
    go_quiet (first | (go_at_call_of 32 (Value.string (bs T0)); exact Calls.quiet_of_same ((H3.out _).mono (fun e w1 x => ⟨x.1, x.2.symm⟩))) | (go_at_call_of 32 (Value.string (bs T3)); exact Calls.quiet_of_same ((H4.out _).mono (fun e w1 x => ⟨x.1, x.2.symm⟩))))
    go_wp2_with fail
    refine (H5.out _).mono ?_
    rintro e w3 ⟨rfl, rfl⟩
    go_wp2
    go_ret2
    refine ⟨?_, dwn (hb.out.trans hb2.out) _⟩
    rw [E.out.1, E.out.2]; try rfl
    first | rfl | go_num | (simp; omega)
  · have q1 : decide ((59 : Int) < (y : Int)) = true := decide_eq_true (by omega)
    go_enter Tryd.func35, Tryd.ntmps35
    go_wp2_with fail
    refine (H1.out _).mono ?_
    rintro e w1 ⟨rfl, hb⟩
    replace hb := Lib.hid hb
    go_wp2_with fail
    refine (H2.out _).mono ?_
    rintro e w2 ⟨rfl, hb2⟩
    replace hb2 := Lib.hid (hb2.mono hb.out.size)
    go_wp2_with fail
    go_quiet (first | (go_at_call_of 32 (Value.string (bs T0)); exact Calls.quiet_of_same ((H3.out _).mono (fun e w1 x => ⟨x.1, x.2.symm⟩))) | (go_at_call_of 32 (Value.string (bs T3)); exact Calls.quiet_of_same ((H4.out _).mono (fun e w1 x => ⟨x.1, x.2.symm⟩))))
    go_wp2_with fail
    refine (H5.out _).mono ?_
    rintro e w3 ⟨rfl, rfl⟩
    go_wp2
    go_ret2
    refine ⟨?_, dwn (hb.out.trans hb2.out) _⟩
    rw [E.out.1, E.out.2]; try rfl
  · have q1 : decide ((59 : Int) < (y : Int)) = false := decide_eq_false (by omega)
    have q2 : decide ((59 : Int) < (z : Int)) = true := decide_eq_true (by omega)
    go_enter Tryd.func35, Tryd.ntmps35
    go_wp2_with fail
    refine (H1.out _).mono ?_
    rintro e w1 ⟨rfl, hb⟩
    replace hb := Lib.hid hb
    go_wp2_with fail
    refine (H2.out _).mono ?_
    rintro e w2 ⟨rfl, hb2⟩
    replace hb2 := Lib.hid (hb2.mono hb.out.size)
    go_wp2_with fail
    go_quiet (first | (go_at_call_of 32 (Value.string (bs T0)); exact Calls.quiet_of_same ((H3.out _).mono (fun e w1 x => ⟨x.1, x.2.symm⟩))) | (go_at_call_of 32 (Value.string (bs T3)); exact Calls.quiet_of_same ((H4.out _).mono (fun e w1 x => ⟨x.1, x.2.symm⟩))))
    go_wp2_with fail
    refine (H5.out _).mono ?_
    rintro e w3 ⟨rfl, rfl⟩
    go_wp2
    go_ret2
    refine ⟨?_, dwn (hb.out.trans hb2.out) _⟩
    rw [E.out.1, E.out.2]; try rfl
set_option maxHeartbeats 3200000 in
set_option maxRecDepth 100000 in
theorem pSecs14_any (t : List UInt8) (w : World) : Calls Tryd.prog 35 #[.string (bs t)] w fun e w' => e = .returned (.tuple #[.int .i64 (seV t), .int .i64 (seE t)]) ∧ Below w.heap.size w w' := by
  by_cases h1 : frB t fS = true
  · exact secs_5 t h1 w
  by_cases h2 : frB t fL = true
  · exact secs_8 t h2 w
  have X1 := formS_any t
  have X2 := formL_any t
  rw [Bool.eq_false_iff.2 h1] at X1
  rw [Bool.eq_false_iff.2 h2] at X2
  have E : Hid (seV t = 0 ∧ seE t = 2) := Lib.hid (se_no (by rw [hms_none (Bool.eq_false_iff.2 h1) (Bool.eq_false_iff.2 h2)]; decide))
  have H1 := Lib.hid X1
  have H2 := Lib.hid X2
  clear X1 X2 h1 h2
  go_enter Tryd.func35, Tryd.ntmps35
  go_wp2_with fail
  
  refine (H1.out _).mono ?_
  rintro e V1 ⟨rfl, hb1⟩
  have B1 : Hid (Below w.heap.size w V1) := by first | exact Lib.hid ((Below.refl w.heap.size w).trans (hb1.mono (by first | assumption | (simp <;> omega) | (simp; done)))) | exact Lib.hid (((Below.refl w.heap.size w).alloc (Nat.le_refl _) _).trans (hb1.mono (by first | assumption | (simp <;> omega) | (simp; done)))) | exact Lib.hid ((((Below.refl w.heap.size w).alloc (Nat.le_refl _) _).alloc (by simp <;> omega) _).trans (hb1.mono (by first | assumption | (simp <;> omega) | (simp; done)))) | exact Lib.hid (((((Below.refl w.heap.size w).alloc (Nat.le_refl _) _).alloc (by simp <;> omega) _).alloc (by simp <;> omega) _).trans (hb1.mono (by first | assumption | (simp <;> omega) | (simp; done))))
  clear hb1
  go_simp
  go_wp2_with fail
  refine (H2.out _).mono ?_
  rintro e V2 ⟨rfl, hb2⟩
  have B2 : Hid (Below w.heap.size w V2) := by first | exact Lib.hid ((B1.out).trans (hb2.mono (by have := B1.out.size; first | assumption | (simp <;> omega) | (simp; done)))) | exact Lib.hid (((B1.out).alloc (B1.out.size) _).trans (hb2.mono (by have := B1.out.size; first | assumption | (simp <;> omega) | (simp; done)))) | exact Lib.hid ((((B1.out).alloc (B1.out.size) _).alloc (by have := B1.out.size; simp <;> omega) _).trans (hb2.mono (by have := B1.out.size; first | assumption | (simp <;> omega) | (simp; done)))) | exact Lib.hid (((((B1.out).alloc (B1.out.size) _).alloc (by have := B1.out.size; simp <;> omega) _).alloc (by have := B1.out.size; simp <;> omega) _).trans (hb2.mono (by have := B1.out.size; first | assumption | (simp <;> omega) | (simp; done))))
  clear hb2
  go_simp
  go_wp2
  go_ret2
  exact ⟨by rw [E.out.1, E.out.2]; try rfl, B2.out⟩
theorem tim_se (t : List UInt8) : (hmsV t < 0 → timE t = 2 ∧ timV t = 0) ∧ (¬ hmsV t < 0 → timE t = wiE (hmsV t) 0 86400 ∧ timV t = wiV (hmsV t) 0 86400) := by
  refine ⟨tim_form, fun h => ?_⟩
  by_cases h2 : 86400 < hmsV t
  · rw [(tim_range h h2).1, (tim_range h h2).2, (wi_no (Or.inr h2)).1, (wi_no (Or.inr h2)).2]; exact ⟨rfl, rfl⟩
  · rw [(tim_ok h h2).1, (tim_ok h h2).2, (wi_ok (by omega)).1, (wi_ok (by omega)).2]; exact ⟨rfl, rfl⟩
set_option maxHeartbeats 1600000 in
theorem pTime_any (L : List UInt8) (hL : L.length ≤ 100000) (w : World) : Calls Tryd.prog 16 #[.string (bs L)] w fun e w' => e = .returned (.tuple #[.int .i64 (timV L), .int .i64 (timE L)]) ∧ Below w.heap.size w w' := by
  have X1 := pSecs14_any L
  by_cases h : hmsV L < 0
  · have E := Lib.hid ((tim_se L).1 h)
    rw [(se_no h).1, (se_no h).2] at X1
    have H1 := Lib.hid X1
    clear X1 h
    go_enter Tryd.func16, Tryd.ntmps16
    go_wp2_with fail
    
    refine (H1.out _).mono ?_
    rintro e V1 ⟨rfl, hb1⟩
    have B1 : Hid (Below w.heap.size w V1) := by first | exact Lib.hid ((Below.refl w.heap.size w).trans (hb1.mono (by first | assumption | (simp <;> omega) | (simp; done)))) | exact Lib.hid (((Below.refl w.heap.size w).alloc (Nat.le_refl _) _).trans (hb1.mono (by first | assumption | (simp <;> omega) | (simp; done)))) | exact Lib.hid ((((Below.refl w.heap.size w).alloc (Nat.le_refl _) _).alloc (by simp <;> omega) _).trans (hb1.mono (by first | assumption | (simp <;> omega) | (simp; done)))) | exact Lib.hid (((((Below.refl w.heap.size w).alloc (Nat.le_refl _) _).alloc (by simp <;> omega) _).alloc (by simp <;> omega) _).trans (hb1.mono (by first | assumption | (simp <;> omega) | (simp; done))))
    clear hb1
    go_simp
    go_wp2
    go_ret2
    exact ⟨by rw [E.out.1, E.out.2]; try rfl, B1.out⟩
  · have E := Lib.hid ((tim_se L).2 h)
    rw [(se_ok h).1, (se_ok h).2] at X1
    have H1 := Lib.hid X1
    have H2 := Lib.hid (fun w => grow2 (pWithin_p (hmsV L) 0 86400 w))
    clear X1 h
    generalize wiE (hmsV L) 0 86400 = e1 at *
    generalize wiV (hmsV L) 0 86400 = e2 at *
    generalize hmsV L = x at *
    go_enter Tryd.func16, Tryd.ntmps16
    go_wp2_with fail
    
    refine (H1.out _).mono ?_
    rintro e V1 ⟨rfl, hb1⟩
    have B1 : Hid (Below w.heap.size w V1) := by first | exact Lib.hid ((Below.refl w.heap.size w).trans (hb1.mono (by first | assumption | (simp <;> omega) | (simp; done)))) | exact Lib.hid (((Below.refl w.heap.size w).alloc (Nat.le_refl _) _).trans (hb1.mono (by first | assumption | (simp <;> omega) | (simp; done)))) | exact Lib.hid ((((Below.refl w.heap.size w).alloc (Nat.le_refl _) _).alloc (by simp <;> omega) _).trans (hb1.mono (by first | assumption | (simp <;> omega) | (simp; done)))) | exact Lib.hid (((((Below.refl w.heap.size w).alloc (Nat.le_refl _) _).alloc (by simp <;> omega) _).alloc (by simp <;> omega) _).trans (hb1.mono (by first | assumption | (simp <;> omega) | (simp; done))))
    clear hb1
    go_simp
    go_wp2_with fail
    refine (H2.out _).mono ?_
    rintro e V2 ⟨rfl, hb2⟩
    have B2 : Hid (Below w.heap.size w V2) := by first | exact Lib.hid ((B1.out).trans (hb2.mono (by have := B1.out.size; first | assumption | (simp <;> omega) | (simp; done)))) | exact Lib.hid (((B1.out).alloc (B1.out.size) _).trans (hb2.mono (by have := B1.out.size; first | assumption | (simp <;> omega) | (simp; done)))) | exact Lib.hid ((((B1.out).alloc (B1.out.size) _).alloc (by have := B1.out.size; simp <;> omega) _).trans (hb2.mono (by have := B1.out.size; first | assumption | (simp <;> omega) | (simp; done)))) | exact Lib.hid (((((B1.out).alloc (B1.out.size) _).alloc (by have := B1.out.size; simp <;> omega) _).alloc (by have := B1.out.size; simp <;> omega) _).trans (hb2.mono (by have := B1.out.size; first | assumption | (simp <;> omega) | (simp; done))))
    clear hb2
    go_simp
    go_wp2
    go_ret2
    exact ⟨by rw [E.out.1, E.out.2]; try rfl, B2.out⟩
theorem pls_hd (L : List UInt8) : plsB L = true → hd0 L = 43 ∧ cpL L [43] = L.drop 1 := by
  intro h
  have h2 : L.take 1 = [43] := by unfold plsB at h; simpa using h
  refine ⟨?_, if_pos h2⟩
  match L with
  | [] => cases h2
  | c :: r => simp at h2; subst h2; rfl
theorem pls_no (L : List UInt8) : plsB L = false → hd0 L ≠ 43 ∧ cpL L [43] = L := by
  intro h
  have h2 : ¬ L.take 1 = [43] := by unfold plsB at h; simpa using h
  refine ⟨?_, if_neg h2⟩
  match L with
  | [] => decide
  | c :: r =>
    intro hc
    apply h2
    have : c.toNat = 43 := hc
    simp
    exact UInt8.toNat_inj.1 this
theorem neg_hd (L : List UInt8) : (negB L = true → hd0 L = 45) ∧ (negB L = false → hd0 L ≠ 45) := by
  match L with
  | [] => exact ⟨fun h => Bool.noConfusion (show false = true from h), fun _ => (by decide : hd0 [] ≠ 45)⟩
  | c :: r =>
    constructor
    · intro h
      unfold negB at h
      have h2 : c.toNat = 45 := by simpa using h
      exact h2
    · intro h hc
      have : c.toNat = 45 := hc
      unfold negB at h; simp [this] at h
theorem off_same {L : List UInt8} (h : plsB L = negB (cpL L [43])) : offE L = 2 ∧ offV L = 0 := by
  cases hp : plsB L
  · obtain ⟨h1, h2⟩ := pls_no L hp
    rw [hp, h2] at h
    exact off_form ⟨h1, (neg_hd L).2 h.symm⟩
  · obtain ⟨h1, h2⟩ := pls_hd L hp
    rw [hp, h2] at h
    exact off_odd (by omega) (Or.inl (by rw [hms_sign h.symm]; decide))
theorem off_apart {L : List UInt8} (h : plsB L ≠ negB (cpL L [43])) :
    bodyN (cpL L [43]) = L.drop 1 ∧ (hd0 L = 43 ∨ hd0 L = 45) ∧ negB (cpL L [43]) = decide (hd0 L = 45) := by
  cases hp : plsB L
  · obtain ⟨h1, h2⟩ := pls_no L hp
    rw [hp, h2] at h
    have hn : negB L = true := by
      cases q : negB L
      · rw [q] at h; exact absurd rfl h
      · rfl
    have h45 := (neg_hd L).1 hn
    rw [h2, hn]
    exact ⟨(body_neg hn).1, Or.inr h45, (decide_eq_true h45).symm⟩
  · obtain ⟨h1, h2⟩ := pls_hd L hp
    rw [hp, h2] at h
    have hn : negB (L.drop 1) = false := by
      cases q : negB (L.drop 1)
      · rfl
      · rw [q] at h; exact absurd rfl h
    rw [h2, hn]
    exact ⟨body_pos hn, Or.inl h1, (decide_eq_false (by omega)).symm⟩
theorem off_tu {L : List UInt8} (h : hd0 L = 43 ∨ hd0 L = 45) (hs : ¬ hmsV (L.drop 1) < 0) :
    (decide (hd0 L = 45) = true ∧ hmsV (L.drop 1) = 0 → offE L = 2 ∧ offV L = 0) ∧
    (¬ (decide (hd0 L = 45) = true ∧ hmsV (L.drop 1) = 0) → offE L = wiE (tuV (hmsV (L.drop 1)) (decide (hd0 L = 45))) (-64800) 64800 ∧ offV L = wiV (tuV (hmsV (L.drop 1)) (decide (hd0 L = 45))) (-64800) 64800) := by
  constructor
  · rintro ⟨h1, h2⟩
    exact off_odd (by omega) (Or.inr ⟨h2, by simpa using h1⟩)
  · intro hno
    have hF : ¬ (hmsV (L.drop 1) < 0 ∨ (hmsV (L.drop 1) = 0 ∧ hd0 L = 45)) := by
      rintro (h1 | ⟨h1, h2⟩)
      · exact hs h1
      · exact hno ⟨decide_eq_true h2, h1⟩
    have hV : tuV (hmsV (L.drop 1)) (decide (hd0 L = 45)) = if hd0 L = 45 then -hmsV (L.drop 1) else hmsV (L.drop 1) := by
      by_cases h45 : hd0 L = 45
      · rw [decide_eq_true h45, if_pos h45]; exact (tu_neg (fun h0 => hF (Or.inr ⟨h0, h45⟩))).1
      · rw [decide_eq_false h45, if_neg h45]; exact (tu_pos _).1
    rw [hV]
    by_cases h3 : 64800 < hmsV (L.drop 1)
    · have hr : (if hd0 L = 45 then -hmsV (L.drop 1) else hmsV (L.drop 1)) < -64800 ∨ 64800 < (if hd0 L = 45 then -hmsV (L.drop 1) else hmsV (L.drop 1)) := by split <;> omega
      rw [(off_range (by omega) hF h3).1, (off_range (by omega) hF h3).2, (wi_no hr).1, (wi_no hr).2]; exact ⟨rfl, rfl⟩
    · have hr : ¬ ((if hd0 L = 45 then -hmsV (L.drop 1) else hmsV (L.drop 1)) < -64800 ∨ 64800 < (if hd0 L = 45 then -hmsV (L.drop 1) else hmsV (L.drop 1))) := by split <;> omega
      rw [(off_ok (by omega) hF h3).1, (off_ok (by omega) hF h3).2, (wi_ok hr).1, (wi_ok hr).2]; exact ⟨rfl, rfl⟩
set_option maxHeartbeats 3200000 in
set_option maxRecDepth 100000 in
theorem pOffset_any (L : List UInt8) (hL : L.length ≤ 100000) (w : World) : Calls Tryd.prog 14 #[.string (bs L)] w fun e w' => e = .returned (.tuple #[.int .i64 (offV L), .int .i64 (offE L)]) ∧ Below w.heap.size w w' := by
  have X1 := fun w => grow2 (cutPls_p L w)
  have X2 := fun w => grow2 (cutNeg_p (cpL L [43]) w)
  by_cases hs : plsB L = negB (cpL L [43])
  · have E := Lib.hid (off_same hs)
    rw [hs] at X1
    have H1 := Lib.hid X1
    have H2 := Lib.hid X2
    clear X1 X2 hs
    generalize bodyN (cpL L [43]) = T at *
    generalize negB (cpL L [43]) = m at *
    generalize cpL L [43] = T1 at *
    cases m
    all_goals
      go_enter Tryd.func14, Tryd.ntmps14
      go_wp2_with fail
      
      refine (H1.out _).mono ?_
      rintro e V1 ⟨rfl, hb1⟩
      have B1 : Hid (Below w.heap.size w V1) := by first | exact Lib.hid ((Below.refl w.heap.size w).trans (hb1.mono (by first | assumption | (simp <;> omega) | (simp; done)))) | exact Lib.hid (((Below.refl w.heap.size w).alloc (Nat.le_refl _) _).trans (hb1.mono (by first | assumption | (simp <;> omega) | (simp; done)))) | exact Lib.hid ((((Below.refl w.heap.size w).alloc (Nat.le_refl _) _).alloc (by simp <;> omega) _).trans (hb1.mono (by first | assumption | (simp <;> omega) | (simp; done)))) | exact Lib.hid (((((Below.refl w.heap.size w).alloc (Nat.le_refl _) _).alloc (by simp <;> omega) _).alloc (by simp <;> omega) _).trans (hb1.mono (by first | assumption | (simp <;> omega) | (simp; done))))
      clear hb1
      go_simp
      go_wp2_with fail
      refine (H2.out _).mono ?_
      rintro e V2 ⟨rfl, hb2⟩
      have B2 : Hid (Below w.heap.size w V2) := by first | exact Lib.hid ((B1.out).trans (hb2.mono (by have := B1.out.size; first | assumption | (simp <;> omega) | (simp; done)))) | exact Lib.hid (((B1.out).alloc (B1.out.size) _).trans (hb2.mono (by have := B1.out.size; first | assumption | (simp <;> omega) | (simp; done)))) | exact Lib.hid ((((B1.out).alloc (B1.out.size) _).alloc (by have := B1.out.size; simp <;> omega) _).trans (hb2.mono (by have := B1.out.size; first | assumption | (simp <;> omega) | (simp; done)))) | exact Lib.hid (((((B1.out).alloc (B1.out.size) _).alloc (by have := B1.out.size; simp <;> omega) _).alloc (by have := B1.out.size; simp <;> omega) _).trans (hb2.mono (by have := B1.out.size; first | assumption | (simp <;> omega) | (simp; done))))
      clear hb2
      go_simp
      go_wp2
      go_ret2
      exact ⟨by rw [E.out.1, E.out.2]; try rfl, B2.out⟩
  · obtain ⟨hb, hh, hn⟩ := off_apart hs
    have hq : (plsB L == negB (cpL L [43])) = false := by rw [beq_eq_false_iff_ne]; exact hs
    rw [hb, hn] at X2
    rw [hn] at hq
    have X3 := pSecs14_any (L.drop 1)
    have bd := hms_bd (L.drop 1)
    by_cases h0 : hmsV (L.drop 1) < 0
    · have E := Lib.hid (off_odd (L := L) (by omega) (Or.inl h0))
      rw [(se_no h0).1, (se_no h0).2] at X3
      have H1 := Lib.hid X1
      have H2 := Lib.hid X2
      have H3 := Lib.hid X3
      clear X1 X2 X3 hs hh hn hb bd h0
      generalize decide (hd0 L = 45) = m at *
      generalize plsB L = p at *
      generalize L.drop 1 = T at *
      generalize cpL L [43] = T1 at *
      go_enter Tryd.func14, Tryd.ntmps14
      go_wp2_with fail
      
      refine (H1.out _).mono ?_
      rintro e V1 ⟨rfl, hb1⟩
      have B1 : Hid (Below w.heap.size w V1) := by first | exact Lib.hid ((Below.refl w.heap.size w).trans (hb1.mono (by first | assumption | (simp <;> omega) | (simp; done)))) | exact Lib.hid (((Below.refl w.heap.size w).alloc (Nat.le_refl _) _).trans (hb1.mono (by first | assumption | (simp <;> omega) | (simp; done)))) | exact Lib.hid ((((Below.refl w.heap.size w).alloc (Nat.le_refl _) _).alloc (by simp <;> omega) _).trans (hb1.mono (by first | assumption | (simp <;> omega) | (simp; done)))) | exact Lib.hid (((((Below.refl w.heap.size w).alloc (Nat.le_refl _) _).alloc (by simp <;> omega) _).alloc (by simp <;> omega) _).trans (hb1.mono (by first | assumption | (simp <;> omega) | (simp; done))))
      clear hb1
      go_simp
      go_wp2_with fail
      refine (H2.out _).mono ?_
      rintro e V2 ⟨rfl, hb2⟩
      have B2 : Hid (Below w.heap.size w V2) := by first | exact Lib.hid ((B1.out).trans (hb2.mono (by have := B1.out.size; first | assumption | (simp <;> omega) | (simp; done)))) | exact Lib.hid (((B1.out).alloc (B1.out.size) _).trans (hb2.mono (by have := B1.out.size; first | assumption | (simp <;> omega) | (simp; done)))) | exact Lib.hid ((((B1.out).alloc (B1.out.size) _).alloc (by have := B1.out.size; simp <;> omega) _).trans (hb2.mono (by have := B1.out.size; first | assumption | (simp <;> omega) | (simp; done)))) | exact Lib.hid (((((B1.out).alloc (B1.out.size) _).alloc (by have := B1.out.size; simp <;> omega) _).alloc (by have := B1.out.size; simp <;> omega) _).trans (hb2.mono (by have := B1.out.size; first | assumption | (simp <;> omega) | (simp; done))))
      clear hb2
      go_simp
      go_wp2_with fail
      refine (H3.out _).mono ?_
      rintro e V3 ⟨rfl, hb3⟩
      have B3 : Hid (Below w.heap.size w V3) := by first | exact Lib.hid ((B2.out).trans (hb3.mono (by have := B2.out.size; first | assumption | (simp <;> omega) | (simp; done)))) | exact Lib.hid (((B2.out).alloc (B2.out.size) _).trans (hb3.mono (by have := B2.out.size; first | assumption | (simp <;> omega) | (simp; done)))) | exact Lib.hid ((((B2.out).alloc (B2.out.size) _).alloc (by have := B2.out.size; simp <;> omega) _).trans (hb3.mono (by have := B2.out.size; first | assumption | (simp <;> omega) | (simp; done)))) | exact Lib.hid (((((B2.out).alloc (B2.out.size) _).alloc (by have := B2.out.size; simp <;> omega) _).alloc (by have := B2.out.size; simp <;> omega) _).trans (hb3.mono (by have := B2.out.size; first | assumption | (simp <;> omega) | (simp; done))))
      clear hb3
      go_simp
      go_wp2
      go_ret2
      exact ⟨by rw [E.out.1, E.out.2]; try rfl, B3.out⟩
    · have F := off_tu hh h0
      rw [(se_ok h0).1, (se_ok h0).2] at X3
      have X4 := fun w => grow2 (pTurned_p (hmsV (L.drop 1)) (decide (hd0 L = 45)) (by omega) (by omega) w)
      by_cases hz : decide (hd0 L = 45) = true ∧ hmsV (L.drop 1) = 0
      · have E := Lib.hid (F.1 hz)
        obtain ⟨hz1, hz2⟩ := hz
        rw [hz1, hz2, tu_zero.1, tu_zero.2] at X4
        rw [hz2] at X3
        rw [hz1] at X2 hq
        have H1 := Lib.hid X1
        have H2 := Lib.hid X2
        have H3 := Lib.hid X3
        have H4 := Lib.hid X4
        clear X1 X2 X3 X4 F hs hh hn hb bd h0 hz1 hz2
        generalize plsB L = p at *
        generalize L.drop 1 = T at *
        generalize cpL L [43] = T1 at *
        go_enter Tryd.func14, Tryd.ntmps14
        go_wp2_with fail
        
        refine (H1.out _).mono ?_
        rintro e V1 ⟨rfl, hb1⟩
        have B1 : Hid (Below w.heap.size w V1) := by first | exact Lib.hid ((Below.refl w.heap.size w).trans (hb1.mono (by first | assumption | (simp <;> omega) | (simp; done)))) | exact Lib.hid (((Below.refl w.heap.size w).alloc (Nat.le_refl _) _).trans (hb1.mono (by first | assumption | (simp <;> omega) | (simp; done)))) | exact Lib.hid ((((Below.refl w.heap.size w).alloc (Nat.le_refl _) _).alloc (by simp <;> omega) _).trans (hb1.mono (by first | assumption | (simp <;> omega) | (simp; done)))) | exact Lib.hid (((((Below.refl w.heap.size w).alloc (Nat.le_refl _) _).alloc (by simp <;> omega) _).alloc (by simp <;> omega) _).trans (hb1.mono (by first | assumption | (simp <;> omega) | (simp; done))))
        clear hb1
        go_simp
        go_wp2_with fail
        refine (H2.out _).mono ?_
        rintro e V2 ⟨rfl, hb2⟩
        have B2 : Hid (Below w.heap.size w V2) := by first | exact Lib.hid ((B1.out).trans (hb2.mono (by have := B1.out.size; first | assumption | (simp <;> omega) | (simp; done)))) | exact Lib.hid (((B1.out).alloc (B1.out.size) _).trans (hb2.mono (by have := B1.out.size; first | assumption | (simp <;> omega) | (simp; done)))) | exact Lib.hid ((((B1.out).alloc (B1.out.size) _).alloc (by have := B1.out.size; simp <;> omega) _).trans (hb2.mono (by have := B1.out.size; first | assumption | (simp <;> omega) | (simp; done)))) | exact Lib.hid (((((B1.out).alloc (B1.out.size) _).alloc (by have := B1.out.size; simp <;> omega) _).alloc (by have := B1.out.size; simp <;> omega) _).trans (hb2.mono (by have := B1.out.size; first | assumption | (simp <;> omega) | (simp; done))))
        clear hb2
        go_simp
        go_wp2_with fail
        refine (H3.out _).mono ?_
        rintro e V3 ⟨rfl, hb3⟩
        have B3 : Hid (Below w.heap.size w V3) := by first | exact Lib.hid ((B2.out).trans (hb3.mono (by have := B2.out.size; first | assumption | (simp <;> omega) | (simp; done)))) | exact Lib.hid (((B2.out).alloc (B2.out.size) _).trans (hb3.mono (by have := B2.out.size; first | assumption | (simp <;> omega) | (simp; done)))) | exact Lib.hid ((((B2.out).alloc (B2.out.size) _).alloc (by have := B2.out.size; simp <;> omega) _).trans (hb3.mono (by have := B2.out.size; first | assumption | (simp <;> omega) | (simp; done)))) | exact Lib.hid (((((B2.out).alloc (B2.out.size) _).alloc (by have := B2.out.size; simp <;> omega) _).alloc (by have := B2.out.size; simp <;> omega) _).trans (hb3.mono (by have := B2.out.size; first | assumption | (simp <;> omega) | (simp; done))))
        clear hb3
        go_simp
        go_wp2_with fail
        refine (H4.out _).mono ?_
        rintro e V4 ⟨rfl, hb4⟩
        have B4 : Hid (Below w.heap.size w V4) := by first | exact Lib.hid ((B3.out).trans (hb4.mono (by have := B3.out.size; first | assumption | (simp <;> omega) | (simp; done)))) | exact Lib.hid (((B3.out).alloc (B3.out.size) _).trans (hb4.mono (by have := B3.out.size; first | assumption | (simp <;> omega) | (simp; done)))) | exact Lib.hid ((((B3.out).alloc (B3.out.size) _).alloc (by have := B3.out.size; simp <;> omega) _).trans (hb4.mono (by have := B3.out.size; first | assumption | (simp <;> omega) | (simp; done)))) | exact Lib.hid (((((B3.out).alloc (B3.out.size) _).alloc (by have := B3.out.size; simp <;> omega) _).alloc (by have := B3.out.size; simp <;> omega) _).trans (hb4.mono (by have := B3.out.size; first | assumption | (simp <;> omega) | (simp; done))))
        clear hb4
        go_simp
        go_wp2
        go_ret2
        exact ⟨by rw [E.out.1, E.out.2]; try rfl, B4.out⟩
      · have E := Lib.hid (F.2 hz)
        have ht : tuE (hmsV (L.drop 1)) (decide (hd0 L = 45)) = 0 := by unfold tuE; exact if_neg hz
        rw [ht] at X4
        have H1 := Lib.hid X1
        have H2 := Lib.hid X2
        have H3 := Lib.hid X3
        have H4 := Lib.hid X4
        have H5 := Lib.hid (fun w => grow2 (pWithin_p (tuV (hmsV (L.drop 1)) (decide (hd0 L = 45))) (-64800) 64800 w))
        clear X1 X2 X3 X4 F hs hh hn hb bd h0 hz ht
        generalize tuV (hmsV (L.drop 1)) (decide (hd0 L = 45)) = v at *
        generalize wiE v (-64800) 64800 = we at *
        generalize wiV v (-64800) 64800 = wv at *
        generalize hmsV (L.drop 1) = x at *
        generalize decide (hd0 L = 45) = m at *
        generalize plsB L = p at *
        generalize L.drop 1 = T at *
        generalize cpL L [43] = T1 at *
        go_enter Tryd.func14, Tryd.ntmps14
        go_wp2_with fail
        
        refine (H1.out _).mono ?_
        rintro e V1 ⟨rfl, hb1⟩
        have B1 : Hid (Below w.heap.size w V1) := by first | exact Lib.hid ((Below.refl w.heap.size w).trans (hb1.mono (by first | assumption | (simp <;> omega) | (simp; done)))) | exact Lib.hid (((Below.refl w.heap.size w).alloc (Nat.le_refl _) _).trans (hb1.mono (by first | assumption | (simp <;> omega) | (simp; done)))) | exact Lib.hid ((((Below.refl w.heap.size w).alloc (Nat.le_refl _) _).alloc (by simp <;> omega) _).trans (hb1.mono (by first | assumption | (simp <;> omega) | (simp; done)))) | exact Lib.hid (((((Below.refl w.heap.size w).alloc (Nat.le_refl _) _).alloc (by simp <;> omega) _).alloc (by simp <;> omega) _).trans (hb1.mono (by first | assumption | (simp <;> omega) | (simp; done))))
        clear hb1
        go_simp
        go_wp2_with fail
        refine (H2.out _).mono ?_
        rintro e V2 ⟨rfl, hb2⟩
        have B2 : Hid (Below w.heap.size w V2) := by first | exact Lib.hid ((B1.out).trans (hb2.mono (by have := B1.out.size; first | assumption | (simp <;> omega) | (simp; done)))) | exact Lib.hid (((B1.out).alloc (B1.out.size) _).trans (hb2.mono (by have := B1.out.size; first | assumption | (simp <;> omega) | (simp; done)))) | exact Lib.hid ((((B1.out).alloc (B1.out.size) _).alloc (by have := B1.out.size; simp <;> omega) _).trans (hb2.mono (by have := B1.out.size; first | assumption | (simp <;> omega) | (simp; done)))) | exact Lib.hid (((((B1.out).alloc (B1.out.size) _).alloc (by have := B1.out.size; simp <;> omega) _).alloc (by have := B1.out.size; simp <;> omega) _).trans (hb2.mono (by have := B1.out.size; first | assumption | (simp <;> omega) | (simp; done))))
        clear hb2
        go_simp
        go_wp2_with fail
        refine (H3.out _).mono ?_
        rintro e V3 ⟨rfl, hb3⟩
        have B3 : Hid (Below w.heap.size w V3) := by first | exact Lib.hid ((B2.out).trans (hb3.mono (by have := B2.out.size; first | assumption | (simp <;> omega) | (simp; done)))) | exact Lib.hid (((B2.out).alloc (B2.out.size) _).trans (hb3.mono (by have := B2.out.size; first | assumption | (simp <;> omega) | (simp; done)))) | exact Lib.hid ((((B2.out).alloc (B2.out.size) _).alloc (by have := B2.out.size; simp <;> omega) _).trans (hb3.mono (by have := B2.out.size; first | assumption | (simp <;> omega) | (simp; done)))) | exact Lib.hid (((((B2.out).alloc (B2.out.size) _).alloc (by have := B2.out.size; simp <;> omega) _).alloc (by have := B2.out.size; simp <;> omega) _).trans (hb3.mono (by have := B2.out.size; first | assumption | (simp <;> omega) | (simp; done))))
        clear hb3
        go_simp
        go_wp2_with fail
        refine (H4.out _).mono ?_
        rintro e V4 ⟨rfl, hb4⟩
        have B4 : Hid (Below w.heap.size w V4) := by first | exact Lib.hid ((B3.out).trans (hb4.mono (by have := B3.out.size; first | assumption | (simp <;> omega) | (simp; done)))) | exact Lib.hid (((B3.out).alloc (B3.out.size) _).trans (hb4.mono (by have := B3.out.size; first | assumption | (simp <;> omega) | (simp; done)))) | exact Lib.hid ((((B3.out).alloc (B3.out.size) _).alloc (by have := B3.out.size; simp <;> omega) _).trans (hb4.mono (by have := B3.out.size; first | assumption | (simp <;> omega) | (simp; done)))) | exact Lib.hid (((((B3.out).alloc (B3.out.size) _).alloc (by have := B3.out.size; simp <;> omega) _).alloc (by have := B3.out.size; simp <;> omega) _).trans (hb4.mono (by have := B3.out.size; first | assumption | (simp <;> omega) | (simp; done))))
        clear hb4
        go_simp
        go_wp2_with fail
        refine (H5.out _).mono ?_
        rintro e V5 ⟨rfl, hb5⟩
        have B5 : Hid (Below w.heap.size w V5) := by first | exact Lib.hid ((B4.out).trans (hb5.mono (by have := B4.out.size; first | assumption | (simp <;> omega) | (simp; done)))) | exact Lib.hid (((B4.out).alloc (B4.out.size) _).trans (hb5.mono (by have := B4.out.size; first | assumption | (simp <;> omega) | (simp; done)))) | exact Lib.hid ((((B4.out).alloc (B4.out.size) _).alloc (by have := B4.out.size; simp <;> omega) _).trans (hb5.mono (by have := B4.out.size; first | assumption | (simp <;> omega) | (simp; done)))) | exact Lib.hid (((((B4.out).alloc (B4.out.size) _).alloc (by have := B4.out.size; simp <;> omega) _).alloc (by have := B4.out.size; simp <;> omega) _).trans (hb5.mono (by have := B4.out.size; first | assumption | (simp <;> omega) | (simp; done))))
        clear hb5
        go_simp
        go_wp2
        go_ret2
        exact ⟨by rw [E.out.1, E.out.2]; try rfl, B5.out⟩
set_option maxHeartbeats 3200000 in
set_option maxRecDepth 100000 in
theorem showOff_ns (a : Int) (h0 : 0 < a) (h1 : a ≤ 64800) (hs : a % 60 ≠ 0) (w : World) : Calls Tryd.prog 26 #[.int .i64 (-a)] w fun e w' => e = .returned (.tuple #[.string (bs (offL (-a))), .int .i64 (offX (-a))]) ∧ Below w.heap.size w w' := by
  have hn : ¬ ((-a) < -64800 ∨ 64800 < (-a)) := by omega
  have X0 := fun w => grow2 (pWithin_p (-a) (-64800) 64800 w)
  rw [(wi_ok hn).1, (wi_ok hn).2] at X0
  have H0 := Lib.hid X0
  clear X0
  have H1 := Lib.hid (pPair_any (a / 3600) (by omega) (by omega))
  have H2 := Lib.hid (pPair_any (a / 60 % 60) (by omega) (by omega))
  have H3 := Lib.hid (pPair_any (a % 60) (by omega) (by omega))
  have E : Hid (offL (-a) = 45 :: timL a ∧ offX (-a) = 0) := Lib.hid ⟨by unfold offL; rw [if_neg hn]; rw [if_pos (show -a < 0 by omega), Int.neg_neg], by unfold offX; exact if_neg hn⟩
  have a1 : (⟨#[45]⟩ : ByteArray) ++ bs (twoL (a / 3600)) = bs (45 :: twoL (a / 3600)) := bs_minus _
  have a2 : bs (45 :: twoL (a / 3600)) ++ (⟨#[58]⟩ : ByteArray) = bs (45 :: twoL (a / 3600) ++ [58]) := by rw [bs_colon, append_bs]
  have a3 := append_bs (45 :: twoL (a / 3600) ++ [58]) (twoL (a / 60 % 60))
  have z1 : (bs (twoL (a / 3600))).size = 2 := bs_size _
  have z2 : (bs (twoL (a / 60 % 60))).size = 2 := bs_size _
  have z3 : (bs (45 :: twoL (a / 3600))).size = 3 := bs_size _
  have z4 : (bs (45 :: twoL (a / 3600) ++ [58])).size = 4 := bs_size _
  have z5 : (bs (45 :: twoL (a / 3600) ++ [58] ++ twoL (a / 60 % 60))).size = 6 := bs_size _
  have a4 : (⟨#[58]⟩ : ByteArray) ++ bs (twoL (a % 60)) = bs ([58] ++ twoL (a % 60)) := by rw [bs_colon, append_bs]
  have a5 := append_bs (45 :: twoL (a / 3600) ++ [58] ++ twoL (a / 60 % 60)) ([58] ++ twoL (a % 60))
  have z6 : (bs (twoL (a % 60))).size = 2 := bs_size _
  have z7 : (bs ([58] ++ twoL (a % 60))).size = 3 := bs_size _
  have E2 : Hid (45 :: timL a = 45 :: twoL (a / 3600) ++ [58] ++ twoL (a / 60 % 60) ++ ([58] ++ twoL (a % 60))) := Lib.hid (by unfold timL; rw [if_neg hs]; simp)
  generalize 45 :: twoL (a / 3600) ++ [58] ++ twoL (a / 60 % 60) ++ ([58] ++ twoL (a % 60)) = S5 at *
  generalize [58] ++ twoL (a % 60) = S4 at *
  generalize 45 :: twoL (a / 3600) ++ [58] ++ twoL (a / 60 % 60) = S3 at *
  generalize 45 :: twoL (a / 3600) ++ [58] = S2 at *
  generalize 45 :: twoL (a / 3600) = S1 at *
  generalize twoL (a / 3600) = A1 at *
  generalize twoL (a / 60 % 60) = A2 at *
  generalize twoL (a % 60) = A3 at *
  generalize timL a = TT at *
  have e1 : a.tdiv 3600 = a / 3600 := Int.tdiv_eq_ediv_of_nonneg (by omega)
  have e2 : a.tdiv 60 = a / 60 := Int.tdiv_eq_ediv_of_nonneg (by omega)
  have e3 : (a / 60).tmod 60 = a / 60 % 60 := Int.tmod_eq_emod_of_nonneg (by omega)
  have e4 : a.tmod 60 = a % 60 := Int.tmod_eq_emod_of_nonneg (by omega)
  have q0 : decide ((-a) < 0) = true := decide_eq_true (by omega)
  have bh : 0 ≤ a / 3600 ∧ a / 3600 ≤ 18 := by omega
  have bm : 0 ≤ a / 60 % 60 ∧ a / 60 % 60 ≤ 59 := by omega
  have bx : 0 ≤ a % 60 ∧ a % 60 ≤ 59 := by omega
  have bq : 0 ≤ a / 60 ∧ a / 60 ≤ 1080 := by omega
  replace hn := Lib.hid hn
  generalize hm : a / 60 % 60 = m at *
  generalize hh : a / 3600 = h at *
  generalize hx : a % 60 = x at *
  have q2 : (x == 0) = false := beq_eq_false_iff_ne.2 hs
  replace hm := Lib.hid hm
  replace hh := Lib.hid hh
  replace hs := Lib.hid hs
  go_enter Tryd.func26, Tryd.ntmps26
  go_wp2_with fail
  
  refine (H0.out _).mono ?_
  rintro e V1 ⟨rfl, hb1⟩
  have B1 : Hid (Below w.heap.size w V1) := by first | exact Lib.hid ((Below.refl w.heap.size w).trans (hb1.mono (by first | assumption | (simp <;> omega) | (simp; done)))) | exact Lib.hid (((Below.refl w.heap.size w).alloc (Nat.le_refl _) _).trans (hb1.mono (by first | assumption | (simp <;> omega) | (simp; done)))) | exact Lib.hid ((((Below.refl w.heap.size w).alloc (Nat.le_refl _) _).alloc (by simp <;> omega) _).trans (hb1.mono (by first | assumption | (simp <;> omega) | (simp; done)))) | exact Lib.hid (((((Below.refl w.heap.size w).alloc (Nat.le_refl _) _).alloc (by simp <;> omega) _).alloc (by simp <;> omega) _).trans (hb1.mono (by first | assumption | (simp <;> omega) | (simp; done))))
  clear hb1
  go_simp
  go_wp2_with fail
  refine (H1.out _).mono ?_
  rintro e V2 ⟨rfl, hb2⟩
  have B2 : Hid (Below w.heap.size w V2) := by first | exact Lib.hid ((B1.out).trans (hb2.mono (by have := B1.out.size; first | assumption | (simp <;> omega) | (simp; done)))) | exact Lib.hid (((B1.out).alloc (B1.out.size) _).trans (hb2.mono (by have := B1.out.size; first | assumption | (simp <;> omega) | (simp; done)))) | exact Lib.hid ((((B1.out).alloc (B1.out.size) _).alloc (by have := B1.out.size; simp <;> omega) _).trans (hb2.mono (by have := B1.out.size; first | assumption | (simp <;> omega) | (simp; done)))) | exact Lib.hid (((((B1.out).alloc (B1.out.size) _).alloc (by have := B1.out.size; simp <;> omega) _).alloc (by have := B1.out.size; simp <;> omega) _).trans (hb2.mono (by have := B1.out.size; first | assumption | (simp <;> omega) | (simp; done))))
  clear hb2
  go_simp
  go_wp2_with fail
  refine (H2.out _).mono ?_
  rintro e V3 ⟨rfl, hb3⟩
  have B3 : Hid (Below w.heap.size w V3) := by first | exact Lib.hid ((B2.out).trans (hb3.mono (by have := B2.out.size; first | assumption | (simp <;> omega) | (simp; done)))) | exact Lib.hid (((B2.out).alloc (B2.out.size) _).trans (hb3.mono (by have := B2.out.size; first | assumption | (simp <;> omega) | (simp; done)))) | exact Lib.hid ((((B2.out).alloc (B2.out.size) _).alloc (by have := B2.out.size; simp <;> omega) _).trans (hb3.mono (by have := B2.out.size; first | assumption | (simp <;> omega) | (simp; done)))) | exact Lib.hid (((((B2.out).alloc (B2.out.size) _).alloc (by have := B2.out.size; simp <;> omega) _).alloc (by have := B2.out.size; simp <;> omega) _).trans (hb3.mono (by have := B2.out.size; first | assumption | (simp <;> omega) | (simp; done))))
  clear hb3
  go_simp
  go_wp2_with fail
  refine (H3.out _).mono ?_
  rintro e V4 ⟨rfl, hb4⟩
  have B4 : Hid (Below w.heap.size w V4) := by first | exact Lib.hid ((B3.out).trans (hb4.mono (by have := B3.out.size; first | assumption | (simp <;> omega) | (simp; done)))) | exact Lib.hid (((B3.out).alloc (B3.out.size) _).trans (hb4.mono (by have := B3.out.size; first | assumption | (simp <;> omega) | (simp; done)))) | exact Lib.hid ((((B3.out).alloc (B3.out.size) _).alloc (by have := B3.out.size; simp <;> omega) _).trans (hb4.mono (by have := B3.out.size; first | assumption | (simp <;> omega) | (simp; done)))) | exact Lib.hid (((((B3.out).alloc (B3.out.size) _).alloc (by have := B3.out.size; simp <;> omega) _).alloc (by have := B3.out.size; simp <;> omega) _).trans (hb4.mono (by have := B3.out.size; first | assumption | (simp <;> omega) | (simp; done))))
  clear hb4
  go_simp
  go_wp2
  go_ret2
  exact ⟨by rw [E.out.1, E.out.2, E2.out]; try rfl, B4.out⟩
set_option maxHeartbeats 3200000 in
set_option maxRecDepth 100000 in
theorem showOff_nz (a : Int) (h0 : 0 < a) (h1 : a ≤ 64800) (hs : a % 60 = 0) (w : World) : Calls Tryd.prog 26 #[.int .i64 (-a)] w fun e w' => e = .returned (.tuple #[.string (bs (offL (-a))), .int .i64 (offX (-a))]) ∧ Below w.heap.size w w' := by
  have hn : ¬ ((-a) < -64800 ∨ 64800 < (-a)) := by omega
  have X0 := fun w => grow2 (pWithin_p (-a) (-64800) 64800 w)
  rw [(wi_ok hn).1, (wi_ok hn).2] at X0
  have H0 := Lib.hid X0
  clear X0
  have H1 := Lib.hid (pPair_any (a / 3600) (by omega) (by omega))
  have H2 := Lib.hid (pPair_any (a / 60 % 60) (by omega) (by omega))
  have E : Hid (offL (-a) = 45 :: timL a ∧ offX (-a) = 0) := Lib.hid ⟨by unfold offL; rw [if_neg hn]; rw [if_pos (show -a < 0 by omega), Int.neg_neg], by unfold offX; exact if_neg hn⟩
  have a1 : (⟨#[45]⟩ : ByteArray) ++ bs (twoL (a / 3600)) = bs (45 :: twoL (a / 3600)) := bs_minus _
  have a2 : bs (45 :: twoL (a / 3600)) ++ (⟨#[58]⟩ : ByteArray) = bs (45 :: twoL (a / 3600) ++ [58]) := by rw [bs_colon, append_bs]
  have a3 := append_bs (45 :: twoL (a / 3600) ++ [58]) (twoL (a / 60 % 60))
  have z1 : (bs (twoL (a / 3600))).size = 2 := bs_size _
  have z2 : (bs (twoL (a / 60 % 60))).size = 2 := bs_size _
  have z3 : (bs (45 :: twoL (a / 3600))).size = 3 := bs_size _
  have z4 : (bs (45 :: twoL (a / 3600) ++ [58])).size = 4 := bs_size _
  have z5 : (bs (45 :: twoL (a / 3600) ++ [58] ++ twoL (a / 60 % 60))).size = 6 := bs_size _
  have E2 : Hid (45 :: timL a = 45 :: twoL (a / 3600) ++ [58] ++ twoL (a / 60 % 60)) := Lib.hid (by unfold timL; rw [if_pos hs]; simp)
  generalize 45 :: twoL (a / 3600) ++ [58] ++ twoL (a / 60 % 60) = S3 at *
  generalize 45 :: twoL (a / 3600) ++ [58] = S2 at *
  generalize 45 :: twoL (a / 3600) = S1 at *
  generalize twoL (a / 3600) = A1 at *
  generalize twoL (a / 60 % 60) = A2 at *
  generalize timL a = TT at *
  have e1 : a.tdiv 3600 = a / 3600 := Int.tdiv_eq_ediv_of_nonneg (by omega)
  have e2 : a.tdiv 60 = a / 60 := Int.tdiv_eq_ediv_of_nonneg (by omega)
  have e3 : (a / 60).tmod 60 = a / 60 % 60 := Int.tmod_eq_emod_of_nonneg (by omega)
  have e4 : a.tmod 60 = a % 60 := Int.tmod_eq_emod_of_nonneg (by omega)
  have q0 : decide ((-a) < 0) = true := decide_eq_true (by omega)
  have bh : 0 ≤ a / 3600 ∧ a / 3600 ≤ 18 := by omega
  have bm : 0 ≤ a / 60 % 60 ∧ a / 60 % 60 ≤ 59 := by omega
  have bx : 0 ≤ a % 60 ∧ a % 60 ≤ 59 := by omega
  have bq : 0 ≤ a / 60 ∧ a / 60 ≤ 1080 := by omega
  replace hn := Lib.hid hn
  generalize hm : a / 60 % 60 = m at *
  generalize hh : a / 3600 = h at *
  generalize hx : a % 60 = x at *
  subst hs
  replace hm := Lib.hid hm
  replace hh := Lib.hid hh
  go_enter Tryd.func26, Tryd.ntmps26
  go_wp2_with fail
  
  refine (H0.out _).mono ?_
  rintro e V1 ⟨rfl, hb1⟩
  have B1 : Hid (Below w.heap.size w V1) := by first | exact Lib.hid ((Below.refl w.heap.size w).trans (hb1.mono (by first | assumption | (simp <;> omega) | (simp; done)))) | exact Lib.hid (((Below.refl w.heap.size w).alloc (Nat.le_refl _) _).trans (hb1.mono (by first | assumption | (simp <;> omega) | (simp; done)))) | exact Lib.hid ((((Below.refl w.heap.size w).alloc (Nat.le_refl _) _).alloc (by simp <;> omega) _).trans (hb1.mono (by first | assumption | (simp <;> omega) | (simp; done)))) | exact Lib.hid (((((Below.refl w.heap.size w).alloc (Nat.le_refl _) _).alloc (by simp <;> omega) _).alloc (by simp <;> omega) _).trans (hb1.mono (by first | assumption | (simp <;> omega) | (simp; done))))
  clear hb1
  go_simp
  go_wp2_with fail
  refine (H1.out _).mono ?_
  rintro e V2 ⟨rfl, hb2⟩
  have B2 : Hid (Below w.heap.size w V2) := by first | exact Lib.hid ((B1.out).trans (hb2.mono (by have := B1.out.size; first | assumption | (simp <;> omega) | (simp; done)))) | exact Lib.hid (((B1.out).alloc (B1.out.size) _).trans (hb2.mono (by have := B1.out.size; first | assumption | (simp <;> omega) | (simp; done)))) | exact Lib.hid ((((B1.out).alloc (B1.out.size) _).alloc (by have := B1.out.size; simp <;> omega) _).trans (hb2.mono (by have := B1.out.size; first | assumption | (simp <;> omega) | (simp; done)))) | exact Lib.hid (((((B1.out).alloc (B1.out.size) _).alloc (by have := B1.out.size; simp <;> omega) _).alloc (by have := B1.out.size; simp <;> omega) _).trans (hb2.mono (by have := B1.out.size; first | assumption | (simp <;> omega) | (simp; done))))
  clear hb2
  go_simp
  go_wp2_with fail
  refine (H2.out _).mono ?_
  rintro e V3 ⟨rfl, hb3⟩
  have B3 : Hid (Below w.heap.size w V3) := by first | exact Lib.hid ((B2.out).trans (hb3.mono (by have := B2.out.size; first | assumption | (simp <;> omega) | (simp; done)))) | exact Lib.hid (((B2.out).alloc (B2.out.size) _).trans (hb3.mono (by have := B2.out.size; first | assumption | (simp <;> omega) | (simp; done)))) | exact Lib.hid ((((B2.out).alloc (B2.out.size) _).alloc (by have := B2.out.size; simp <;> omega) _).trans (hb3.mono (by have := B2.out.size; first | assumption | (simp <;> omega) | (simp; done)))) | exact Lib.hid (((((B2.out).alloc (B2.out.size) _).alloc (by have := B2.out.size; simp <;> omega) _).alloc (by have := B2.out.size; simp <;> omega) _).trans (hb3.mono (by have := B2.out.size; first | assumption | (simp <;> omega) | (simp; done))))
  clear hb3
  go_simp
  go_wp2
  go_ret2
  exact ⟨by rw [E.out.1, E.out.2, E2.out]; try rfl, B3.out⟩
set_option maxHeartbeats 3200000 in
set_option maxRecDepth 100000 in
theorem showOff_ps (n : Int) (h0 : 0 ≤ n) (h1 : n ≤ 64800) (hs : n % 60 ≠ 0) (w : World) : Calls Tryd.prog 26 #[.int .i64 n] w fun e w' => e = .returned (.tuple #[.string (bs (offL n)), .int .i64 (offX n)]) ∧ Below w.heap.size w w' := by
  have hn : ¬ (n < -64800 ∨ 64800 < n) := by omega
  have X0 := fun w => grow2 (pWithin_p n (-64800) 64800 w)
  rw [(wi_ok hn).1, (wi_ok hn).2] at X0
  have H0 := Lib.hid X0
  clear X0
  have H1 := Lib.hid (pPair_any (n / 3600) (by omega) (by omega))
  have H2 := Lib.hid (pPair_any (n / 60 % 60) (by omega) (by omega))
  have H3 := Lib.hid (pPair_any (n % 60) (by omega) (by omega))
  have E : Hid (offL n = 43 :: timL n ∧ offX n = 0) := Lib.hid ⟨by unfold offL; rw [if_neg hn]; exact if_neg (by omega), by unfold offX; exact if_neg hn⟩
  have a1 : (⟨#[43]⟩ : ByteArray) ++ bs (twoL (n / 3600)) = bs (43 :: twoL (n / 3600)) := bs_plus _
  have a2 : bs (43 :: twoL (n / 3600)) ++ (⟨#[58]⟩ : ByteArray) = bs (43 :: twoL (n / 3600) ++ [58]) := by rw [bs_colon, append_bs]
  have a3 := append_bs (43 :: twoL (n / 3600) ++ [58]) (twoL (n / 60 % 60))
  have z1 : (bs (twoL (n / 3600))).size = 2 := bs_size _
  have z2 : (bs (twoL (n / 60 % 60))).size = 2 := bs_size _
  have z3 : (bs (43 :: twoL (n / 3600))).size = 3 := bs_size _
  have z4 : (bs (43 :: twoL (n / 3600) ++ [58])).size = 4 := bs_size _
  have z5 : (bs (43 :: twoL (n / 3600) ++ [58] ++ twoL (n / 60 % 60))).size = 6 := bs_size _
  have a4 : (⟨#[58]⟩ : ByteArray) ++ bs (twoL (n % 60)) = bs ([58] ++ twoL (n % 60)) := by rw [bs_colon, append_bs]
  have a5 := append_bs (43 :: twoL (n / 3600) ++ [58] ++ twoL (n / 60 % 60)) ([58] ++ twoL (n % 60))
  have z6 : (bs (twoL (n % 60))).size = 2 := bs_size _
  have z7 : (bs ([58] ++ twoL (n % 60))).size = 3 := bs_size _
  have E2 : Hid (43 :: timL n = 43 :: twoL (n / 3600) ++ [58] ++ twoL (n / 60 % 60) ++ ([58] ++ twoL (n % 60))) := Lib.hid (by unfold timL; rw [if_neg hs]; simp)
  generalize 43 :: twoL (n / 3600) ++ [58] ++ twoL (n / 60 % 60) ++ ([58] ++ twoL (n % 60)) = S5 at *
  generalize [58] ++ twoL (n % 60) = S4 at *
  generalize 43 :: twoL (n / 3600) ++ [58] ++ twoL (n / 60 % 60) = S3 at *
  generalize 43 :: twoL (n / 3600) ++ [58] = S2 at *
  generalize 43 :: twoL (n / 3600) = S1 at *
  generalize twoL (n / 3600) = A1 at *
  generalize twoL (n / 60 % 60) = A2 at *
  generalize twoL (n % 60) = A3 at *
  generalize timL n = TT at *
  have e1 : n.tdiv 3600 = n / 3600 := Int.tdiv_eq_ediv_of_nonneg (by omega)
  have e2 : n.tdiv 60 = n / 60 := Int.tdiv_eq_ediv_of_nonneg (by omega)
  have e3 : (n / 60).tmod 60 = n / 60 % 60 := Int.tmod_eq_emod_of_nonneg (by omega)
  have e4 : n.tmod 60 = n % 60 := Int.tmod_eq_emod_of_nonneg (by omega)
  have q0 : decide (n < 0) = false := decide_eq_false (by omega)
  have bh : 0 ≤ n / 3600 ∧ n / 3600 ≤ 18 := by omega
  have bm : 0 ≤ n / 60 % 60 ∧ n / 60 % 60 ≤ 59 := by omega
  have bx : 0 ≤ n % 60 ∧ n % 60 ≤ 59 := by omega
  have bq : 0 ≤ n / 60 ∧ n / 60 ≤ 1080 := by omega
  replace hn := Lib.hid hn
  generalize hm : n / 60 % 60 = m at *
  generalize hh : n / 3600 = h at *
  generalize hx : n % 60 = x at *
  have q2 : (x == 0) = false := beq_eq_false_iff_ne.2 hs
  replace hm := Lib.hid hm
  replace hh := Lib.hid hh
  replace hs := Lib.hid hs
  go_enter Tryd.func26, Tryd.ntmps26
  go_wp2_with fail
  
  refine (H0.out _).mono ?_
  rintro e V1 ⟨rfl, hb1⟩
  have B1 : Hid (Below w.heap.size w V1) := by first | exact Lib.hid ((Below.refl w.heap.size w).trans (hb1.mono (by first | assumption | (simp <;> omega) | (simp; done)))) | exact Lib.hid (((Below.refl w.heap.size w).alloc (Nat.le_refl _) _).trans (hb1.mono (by first | assumption | (simp <;> omega) | (simp; done)))) | exact Lib.hid ((((Below.refl w.heap.size w).alloc (Nat.le_refl _) _).alloc (by simp <;> omega) _).trans (hb1.mono (by first | assumption | (simp <;> omega) | (simp; done)))) | exact Lib.hid (((((Below.refl w.heap.size w).alloc (Nat.le_refl _) _).alloc (by simp <;> omega) _).alloc (by simp <;> omega) _).trans (hb1.mono (by first | assumption | (simp <;> omega) | (simp; done))))
  clear hb1
  go_simp
  go_wp2_with fail
  refine (H1.out _).mono ?_
  rintro e V2 ⟨rfl, hb2⟩
  have B2 : Hid (Below w.heap.size w V2) := by first | exact Lib.hid ((B1.out).trans (hb2.mono (by have := B1.out.size; first | assumption | (simp <;> omega) | (simp; done)))) | exact Lib.hid (((B1.out).alloc (B1.out.size) _).trans (hb2.mono (by have := B1.out.size; first | assumption | (simp <;> omega) | (simp; done)))) | exact Lib.hid ((((B1.out).alloc (B1.out.size) _).alloc (by have := B1.out.size; simp <;> omega) _).trans (hb2.mono (by have := B1.out.size; first | assumption | (simp <;> omega) | (simp; done)))) | exact Lib.hid (((((B1.out).alloc (B1.out.size) _).alloc (by have := B1.out.size; simp <;> omega) _).alloc (by have := B1.out.size; simp <;> omega) _).trans (hb2.mono (by have := B1.out.size; first | assumption | (simp <;> omega) | (simp; done))))
  clear hb2
  go_simp
  go_wp2_with fail
  refine (H2.out _).mono ?_
  rintro e V3 ⟨rfl, hb3⟩
  have B3 : Hid (Below w.heap.size w V3) := by first | exact Lib.hid ((B2.out).trans (hb3.mono (by have := B2.out.size; first | assumption | (simp <;> omega) | (simp; done)))) | exact Lib.hid (((B2.out).alloc (B2.out.size) _).trans (hb3.mono (by have := B2.out.size; first | assumption | (simp <;> omega) | (simp; done)))) | exact Lib.hid ((((B2.out).alloc (B2.out.size) _).alloc (by have := B2.out.size; simp <;> omega) _).trans (hb3.mono (by have := B2.out.size; first | assumption | (simp <;> omega) | (simp; done)))) | exact Lib.hid (((((B2.out).alloc (B2.out.size) _).alloc (by have := B2.out.size; simp <;> omega) _).alloc (by have := B2.out.size; simp <;> omega) _).trans (hb3.mono (by have := B2.out.size; first | assumption | (simp <;> omega) | (simp; done))))
  clear hb3
  go_simp
  go_wp2_with fail
  refine (H3.out _).mono ?_
  rintro e V4 ⟨rfl, hb4⟩
  have B4 : Hid (Below w.heap.size w V4) := by first | exact Lib.hid ((B3.out).trans (hb4.mono (by have := B3.out.size; first | assumption | (simp <;> omega) | (simp; done)))) | exact Lib.hid (((B3.out).alloc (B3.out.size) _).trans (hb4.mono (by have := B3.out.size; first | assumption | (simp <;> omega) | (simp; done)))) | exact Lib.hid ((((B3.out).alloc (B3.out.size) _).alloc (by have := B3.out.size; simp <;> omega) _).trans (hb4.mono (by have := B3.out.size; first | assumption | (simp <;> omega) | (simp; done)))) | exact Lib.hid (((((B3.out).alloc (B3.out.size) _).alloc (by have := B3.out.size; simp <;> omega) _).alloc (by have := B3.out.size; simp <;> omega) _).trans (hb4.mono (by have := B3.out.size; first | assumption | (simp <;> omega) | (simp; done))))
  clear hb4
  go_simp
  go_wp2
  go_ret2
  exact ⟨by rw [E.out.1, E.out.2, E2.out]; try rfl, B4.out⟩
set_option maxHeartbeats 3200000 in
set_option maxRecDepth 100000 in
theorem showOff_pz (n : Int) (h0 : 0 ≤ n) (h1 : n ≤ 64800) (hs : n % 60 = 0) (w : World) : Calls Tryd.prog 26 #[.int .i64 n] w fun e w' => e = .returned (.tuple #[.string (bs (offL n)), .int .i64 (offX n)]) ∧ Below w.heap.size w w' := by
  have hn : ¬ (n < -64800 ∨ 64800 < n) := by omega
  have X0 := fun w => grow2 (pWithin_p n (-64800) 64800 w)
  rw [(wi_ok hn).1, (wi_ok hn).2] at X0
  have H0 := Lib.hid X0
  clear X0
  have H1 := Lib.hid (pPair_any (n / 3600) (by omega) (by omega))
  have H2 := Lib.hid (pPair_any (n / 60 % 60) (by omega) (by omega))
  have E : Hid (offL n = 43 :: timL n ∧ offX n = 0) := Lib.hid ⟨by unfold offL; rw [if_neg hn]; exact if_neg (by omega), by unfold offX; exact if_neg hn⟩
  have a1 : (⟨#[43]⟩ : ByteArray) ++ bs (twoL (n / 3600)) = bs (43 :: twoL (n / 3600)) := bs_plus _
  have a2 : bs (43 :: twoL (n / 3600)) ++ (⟨#[58]⟩ : ByteArray) = bs (43 :: twoL (n / 3600) ++ [58]) := by rw [bs_colon, append_bs]
  have a3 := append_bs (43 :: twoL (n / 3600) ++ [58]) (twoL (n / 60 % 60))
  have z1 : (bs (twoL (n / 3600))).size = 2 := bs_size _
  have z2 : (bs (twoL (n / 60 % 60))).size = 2 := bs_size _
  have z3 : (bs (43 :: twoL (n / 3600))).size = 3 := bs_size _
  have z4 : (bs (43 :: twoL (n / 3600) ++ [58])).size = 4 := bs_size _
  have z5 : (bs (43 :: twoL (n / 3600) ++ [58] ++ twoL (n / 60 % 60))).size = 6 := bs_size _
  have E2 : Hid (43 :: timL n = 43 :: twoL (n / 3600) ++ [58] ++ twoL (n / 60 % 60)) := Lib.hid (by unfold timL; rw [if_pos hs]; simp)
  generalize 43 :: twoL (n / 3600) ++ [58] ++ twoL (n / 60 % 60) = S3 at *
  generalize 43 :: twoL (n / 3600) ++ [58] = S2 at *
  generalize 43 :: twoL (n / 3600) = S1 at *
  generalize twoL (n / 3600) = A1 at *
  generalize twoL (n / 60 % 60) = A2 at *
  generalize timL n = TT at *
  have e1 : n.tdiv 3600 = n / 3600 := Int.tdiv_eq_ediv_of_nonneg (by omega)
  have e2 : n.tdiv 60 = n / 60 := Int.tdiv_eq_ediv_of_nonneg (by omega)
  have e3 : (n / 60).tmod 60 = n / 60 % 60 := Int.tmod_eq_emod_of_nonneg (by omega)
  have e4 : n.tmod 60 = n % 60 := Int.tmod_eq_emod_of_nonneg (by omega)
  have q0 : decide (n < 0) = false := decide_eq_false (by omega)
  have bh : 0 ≤ n / 3600 ∧ n / 3600 ≤ 18 := by omega
  have bm : 0 ≤ n / 60 % 60 ∧ n / 60 % 60 ≤ 59 := by omega
  have bx : 0 ≤ n % 60 ∧ n % 60 ≤ 59 := by omega
  have bq : 0 ≤ n / 60 ∧ n / 60 ≤ 1080 := by omega
  replace hn := Lib.hid hn
  generalize hm : n / 60 % 60 = m at *
  generalize hh : n / 3600 = h at *
  generalize hx : n % 60 = x at *
  subst hs
  replace hm := Lib.hid hm
  replace hh := Lib.hid hh
  go_enter Tryd.func26, Tryd.ntmps26
  go_wp2_with fail
  
  refine (H0.out _).mono ?_
  rintro e V1 ⟨rfl, hb1⟩
  have B1 : Hid (Below w.heap.size w V1) := by first | exact Lib.hid ((Below.refl w.heap.size w).trans (hb1.mono (by first | assumption | (simp <;> omega) | (simp; done)))) | exact Lib.hid (((Below.refl w.heap.size w).alloc (Nat.le_refl _) _).trans (hb1.mono (by first | assumption | (simp <;> omega) | (simp; done)))) | exact Lib.hid ((((Below.refl w.heap.size w).alloc (Nat.le_refl _) _).alloc (by simp <;> omega) _).trans (hb1.mono (by first | assumption | (simp <;> omega) | (simp; done)))) | exact Lib.hid (((((Below.refl w.heap.size w).alloc (Nat.le_refl _) _).alloc (by simp <;> omega) _).alloc (by simp <;> omega) _).trans (hb1.mono (by first | assumption | (simp <;> omega) | (simp; done))))
  clear hb1
  go_simp
  go_wp2_with fail
  refine (H1.out _).mono ?_
  rintro e V2 ⟨rfl, hb2⟩
  have B2 : Hid (Below w.heap.size w V2) := by first | exact Lib.hid ((B1.out).trans (hb2.mono (by have := B1.out.size; first | assumption | (simp <;> omega) | (simp; done)))) | exact Lib.hid (((B1.out).alloc (B1.out.size) _).trans (hb2.mono (by have := B1.out.size; first | assumption | (simp <;> omega) | (simp; done)))) | exact Lib.hid ((((B1.out).alloc (B1.out.size) _).alloc (by have := B1.out.size; simp <;> omega) _).trans (hb2.mono (by have := B1.out.size; first | assumption | (simp <;> omega) | (simp; done)))) | exact Lib.hid (((((B1.out).alloc (B1.out.size) _).alloc (by have := B1.out.size; simp <;> omega) _).alloc (by have := B1.out.size; simp <;> omega) _).trans (hb2.mono (by have := B1.out.size; first | assumption | (simp <;> omega) | (simp; done))))
  clear hb2
  go_simp
  go_wp2_with fail
  refine (H2.out _).mono ?_
  rintro e V3 ⟨rfl, hb3⟩
  have B3 : Hid (Below w.heap.size w V3) := by first | exact Lib.hid ((B2.out).trans (hb3.mono (by have := B2.out.size; first | assumption | (simp <;> omega) | (simp; done)))) | exact Lib.hid (((B2.out).alloc (B2.out.size) _).trans (hb3.mono (by have := B2.out.size; first | assumption | (simp <;> omega) | (simp; done)))) | exact Lib.hid ((((B2.out).alloc (B2.out.size) _).alloc (by have := B2.out.size; simp <;> omega) _).trans (hb3.mono (by have := B2.out.size; first | assumption | (simp <;> omega) | (simp; done)))) | exact Lib.hid (((((B2.out).alloc (B2.out.size) _).alloc (by have := B2.out.size; simp <;> omega) _).alloc (by have := B2.out.size; simp <;> omega) _).trans (hb3.mono (by have := B2.out.size; first | assumption | (simp <;> omega) | (simp; done))))
  clear hb3
  go_simp
  go_wp2
  go_ret2
  exact ⟨by rw [E.out.1, E.out.2, E2.out]; try rfl, B3.out⟩
set_option maxHeartbeats 1600000 in
set_option maxRecDepth 100000 in
theorem pShowOffset_any (n : Int) (w : World) : Calls Tryd.prog 26 #[.int .i64 n] w fun e w' => e = .returned (.tuple #[.string (bs (offL n)), .int .i64 (offX n)]) ∧ Below w.heap.size w w' := by
  by_cases hr : n < -64800 ∨ 64800 < n
  · have X0 := fun w => grow2 (pWithin_p n (-64800) 64800 w)
    rw [(wi_no hr).1, (wi_no hr).2] at X0
    have H0 := Lib.hid X0
    have E : Hid (offL n = [] ∧ offX n = 8) := Lib.hid ⟨if_pos hr, if_pos hr⟩
    clear X0
    replace hr := Lib.hid hr
    go_enter Tryd.func26, Tryd.ntmps26
    go_wp2_with fail
    
    refine (H0.out _).mono ?_
    rintro e V1 ⟨rfl, hb1⟩
    have B1 : Hid (Below w.heap.size w V1) := by first | exact Lib.hid ((Below.refl w.heap.size w).trans (hb1.mono (by first | assumption | (simp <;> omega) | (simp; done)))) | exact Lib.hid (((Below.refl w.heap.size w).alloc (Nat.le_refl _) _).trans (hb1.mono (by first | assumption | (simp <;> omega) | (simp; done)))) | exact Lib.hid ((((Below.refl w.heap.size w).alloc (Nat.le_refl _) _).alloc (by simp <;> omega) _).trans (hb1.mono (by first | assumption | (simp <;> omega) | (simp; done)))) | exact Lib.hid (((((Below.refl w.heap.size w).alloc (Nat.le_refl _) _).alloc (by simp <;> omega) _).alloc (by simp <;> omega) _).trans (hb1.mono (by first | assumption | (simp <;> omega) | (simp; done))))
    clear hb1
    go_simp
    go_wp2
    go_ret2
    exact ⟨by rw [E.out.1, E.out.2]; unfold bs; try rfl, B1.out⟩
  · by_cases hn : n < 0
    · obtain ⟨a, rfl⟩ : ∃ a, n = -a := ⟨-n, by omega⟩
      by_cases hs : a % 60 = 0
      · exact showOff_nz a (by omega) (by omega) hs w
      · exact showOff_ns a (by omega) (by omega) hs w
    · by_cases hs : n % 60 = 0
      · exact showOff_pz n (by omega) (by omega) hs w
      · exact showOff_ps n (by omega) (by omega) hs w
end Go.Proofs.YtlbeolialpmnmaaDoor
