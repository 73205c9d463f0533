/- Several texts in one: WpE. -/
import Derived.Test.YtlbeolialpmnmaaDoorZWrd1
import Derived.Test.YtlbeolialpmnmaaDoorZCiv1
import Derived.Test.YtlbeolialpmnmaaDoorZWpB1
namespace Go.Proofs.YtlbeolialpmnmaaDoor
set_option linter.unusedVariables false
set_option linter.unusedSimpArgs false
open Go.ChangeShapes Go.WideShapes Go.ChangeAt Go.RowKit
theorem grow2 {P : Program} {f : Nat} {args : Array Value} {w : World} {r : Ending} (h : Calls P f args w fun e w' => e = r ∧ w = w') : Calls P f args w fun e w' => e = r ∧ Below w.heap.size w w' := h.mono fun e w' ⟨a, b⟩ => ⟨a, b ▸ Below.refl _ _⟩
@[irreducible] def plB (T : List UInt8) : Bool := (mdE dgN T 6 == 0) && (decide (T.length = 1) || !zero1 T)
theorem mdA_all (T : List UInt8) : mdA dgN T = T.all dgB := by
  unfold mdA
  induction T with
  | nil => rfl
  | cons c r ih => rw [List.all_cons, List.all_cons, ih, dgB_dgN]
theorem pl_no {T : List UInt8} (h : plB T = false) (b : Bool) : numF T b = false := by
  rw [Bool.eq_false_iff]
  intro hf
  unfold numF at hf
  simp only [Bool.and_eq_true, decide_eq_true_eq, Bool.not_eq_true'] at hf
  obtain ⟨⟨⟨h1, h6⟩, ha⟩, hz⟩ := hf
  unfold plB at h
  rw [mdE_ok ⟨h1, by omega, by rw [mdA_all]; exact ha⟩] at h
  simp at h
  rw [h.2] at hz
  simp at hz
  omega
theorem pl_yes {T : List UInt8} (h : plB T = true) : 1 ≤ T.length ∧ T.length ≤ 6 ∧ T.all dgB = true ∧ (T.length = 1 ∨ zero1 T = false) := by
  unfold plB at h
  rw [Bool.and_eq_true] at h
  obtain ⟨h1, h2⟩ := h
  by_cases hm : 1 ≤ T.length ∧ (T.length : Int) ≤ 6 ∧ mdA dgN T = true
  · refine ⟨hm.1, by omega, by rw [← mdA_all]; exact hm.2.2, ?_⟩
    simpa using h2
  · rw [mdE_no hm] at h1; simp at h1
theorem dval_six {T : List UInt8} (h : T.all dgB = true) (h6 : T.length ≤ 6) : dval T ≤ 999999 := by
  have h1 := dval_lt T h
  have h2 : 10 ^ T.length ≤ 10 ^ 6 := Nat.pow_le_pow_right (by decide) h6
  omega
theorem zero_val {T : List UInt8} (h : T.all dgB = true) (h1 : T.length = 1) (hz : zero1 T = true) : dval T = 0 := by
  match T, h1 with
  | [c], _ =>
    have hc : c.toNat = 48 := by unfold zero1 at hz; simpa using hz
    simp [dval, hc]
theorem num_tu {L : List UInt8} {lo hi : Int} (h : plB (bodyN L) = true) :
    (negB L = true ∧ dval (bodyN L) = 0 → numE L lo hi = 2 ∧ numV L lo hi = 0) ∧
    (¬ (negB L = true ∧ dval (bodyN L) = 0) → numE L lo hi = wiE (tuV (dval (bodyN L)) (negB L)) lo hi ∧ numV L lo hi = wiV (tuV (dval (bodyN L)) (negB L)) lo hi) := by
  obtain ⟨h1, h6, ha, hz⟩ := pl_yes h
  constructor
  · rintro ⟨hn, hv⟩
    have hz1 : zero1 (bodyN L) = true := by
      cases q : zero1 (bodyN L)
      · have := dval_pos ha h1 q; omega
      · rfl
    exact num_form (numF_zero hz1 (Or.inr hn))
  · intro hno
    have hF : numF (bodyN L) (negB L) = true := by
      refine numF_yes h1 h6 ha ?_
      cases q : zero1 (bodyN L)
      · exact Or.inl rfl
      · right
        have hl : (bodyN L).length = 1 := by
          rcases hz with hz | hz
          · exact hz
          · rw [q] at hz; cases hz
        refine ⟨by omega, ?_⟩
        cases hn : negB L
        · rfl
        · exact absurd ⟨hn, zero_val ha hl q⟩ hno
    have hI : numI L = tuV (dval (bodyN L)) (negB L) := by
      cases hn : negB L
      · rw [numI_pos hn, (tu_pos _).1]
      · rw [numI_neg hn, (tu_neg (by rw [hn] at hno; simp at hno; omega)).1]
    rw [← hI]
    by_cases hr : numI L < lo ∨ hi < numI L
    · rw [(num_range hF hr).1, (num_range hF hr).2, (wi_no hr).1, (wi_no hr).2]; exact ⟨rfl, rfl⟩
    · rw [(num_ok hF hr).1, (num_ok hF hr).2, (wi_ok hr).1, (wi_ok hr).2]; exact ⟨rfl, rfl⟩
set_option maxHeartbeats 1600000 in
set_option maxRecDepth 100000 in
theorem pPlain_p (T : List UInt8) (hL : T.length ≤ 9223372036854775807) (w : World) : Calls Tryd.prog 30 #[.string (bs T)] w fun e w' => e = .returned (.bool (plB T)) ∧ w = w' := by
  have hS := bs_size T
  have H := pMade_digit T 6 hL
  by_cases hm : 1 ≤ T.length ∧ (T.length : Int) ≤ 6 ∧ mdA dgN T = true
  · have e := mdE_ok hm
    rw [e] at H
    replace H := Lib.hid H
    by_cases h1 : T.length = 1
    · have E : Hid (plB T = true) := Lib.hid (by unfold plB; rw [e, decide_eq_true h1]; rfl)
      have q1 : ((T.length : Int) == 1) = true := by rw [beq_iff_eq]; omega
      replace hm := Lib.hid hm
      replace h1 := Lib.hid h1
      replace e := Lib.hid e
      go_enter Tryd.func30, Tryd.ntmps30
      go_wp2_with fail
      refine (H.out _).mono ?_
      rintro e w1 ⟨rfl, rfl⟩
      go_wp2
      go_ret
      exact ⟨by rw [E.out]; try rfl, rfl⟩
    · have h0 : 0 < T.length := by omega
      obtain ⟨c, hc⟩ : ∃ c : Nat, T[0].toNat = c := ⟨_, rfl⟩
      have hb := byte_bs T 0 h0 (by rw [hS]; exact h0) hc
      have hz := (neg_at h0).2
      rw [hc] at hz
      have q1 : ((T.length : Int) == 1) = false := by rw [beq_eq_false_iff_ne]; omega
      have q2 : ((c : Int) != 48) = !(c == 48) := by rw [Bool.eq_iff_iff]; simp; omega
      have E : Hid (plB T = !(c == 48)) := Lib.hid (by unfold plB; rw [e, decide_eq_false h1, hz]; rfl)
      generalize (c == 48) = x at *
      replace hm := Lib.hid hm
      replace h1 := Lib.hid h1
      replace e := Lib.hid e
      replace hz := Lib.hid hz
      replace hc := Lib.hid hc
      cases x
      all_goals
        go_enter Tryd.func30, Tryd.ntmps30
        go_wp2_with fail
        refine (H.out _).mono ?_
        rintro e w1 ⟨rfl, rfl⟩
        go_wp2
        go_ret
        exact ⟨by rw [E.out]; try rfl, rfl⟩
  · have e := mdE_no hm
    rw [e] at H
    replace H := Lib.hid H
    have E : Hid (plB T = false) := Lib.hid (by unfold plB; rw [e]; rfl)
    replace hm := Lib.hid hm
    replace e := Lib.hid e
    go_enter Tryd.func30, Tryd.ntmps30
    go_wp2_with fail
    refine (H.out _).mono ?_
    rintro e w1 ⟨rfl, rfl⟩
    go_wp2
    go_ret
    exact ⟨by rw [E.out]; try rfl, rfl⟩
set_option maxHeartbeats 3200000 in
set_option maxRecDepth 100000 in
theorem pNum14_p (L : List UInt8) (lo hi : Int) (hL : L.length ≤ 100000) (w : World) : Calls Tryd.prog 10 #[.string (bs L), .int .i64 lo, .int .i64 hi] w fun e w' => e = .returned (.tuple #[.int .i64 (numV L lo hi), .int .i64 (numE L lo hi)]) ∧ w = w' := by
  have X1 := fun w => cutNeg_p L w
  have hT : (bodyN L).length ≤ 100000 := by
    unfold bodyN
    split
    · rw [List.length_drop]; omega
    · exact hL
  have X2 := fun w => pPlain_p (bodyN L) (by omega) w
  have F0 := fun h => num_form (L := L) (lo := lo) (hi := hi) (pl_no h (negB L))
  have F1 := fun h => num_tu (L := L) (lo := lo) (hi := hi) h
  obtain ⟨T, hTT⟩ : ∃ T, bodyN L = T := ⟨_, rfl⟩
  obtain ⟨b, hbb⟩ : ∃ b, negB L = b := ⟨_, rfl⟩
  rw [hTT] at X1 X2 F0 F1 hT
  rw [hbb] at X1 F1
  cases hp : plB T
  · have E := Lib.hid (F0 hp)
    rw [hp] at X2
    have H1 := Lib.hid X1
    have H2 := Lib.hid X2
    clear X1 X2 F0 F1 hp hT hTT hbb
    go_enter Tryd.func10, Tryd.ntmps10
    go_wp2_with fail
    refine (H1.out _).mono ?_
    rintro e w1 ⟨rfl, rfl⟩
    go_wp2_with fail
    refine (H2.out _).mono ?_
    rintro e w1 ⟨rfl, rfl⟩
    go_wp2
    go_ret2
    exact ⟨by rw [E.out.1, E.out.2]; try rfl, rfl⟩
  · obtain ⟨h1, h6, ha, hz⟩ := pl_yes hp
    have hv := dval_six ha h6
    have X3 := fun w => pDigits_p T ha (by omega) w
    have X4 := fun w => pTurned_p (dval T : Int) b (by omega) (by omega) w
    have F2 := F1 hp
    rw [hp] at X2
    have H1 := Lib.hid X1
    have H2 := Lib.hid X2
    have H3 := Lib.hid X3
    clear F0 F1 hp hTT hbb X1 X2 X3 hz ha
    by_cases hx : b = true ∧ dval T = 0
    · have E := Lib.hid (F2.1 hx)
      obtain ⟨rfl, h0⟩ := hx
      rw [h0] at H3 X4
      rw [show ((0 : Nat) : Int) = 0 from rfl, tu_zero.1, tu_zero.2] at X4
      have H4 := Lib.hid X4
      clear X4 F2 h0 hv
      go_enter Tryd.func10, Tryd.ntmps10
      go_wp2_with fail
      refine (H1.out _).mono ?_
      rintro e w1 ⟨rfl, rfl⟩
      go_wp2_with fail
      refine (H2.out _).mono ?_
      rintro e w1 ⟨rfl, rfl⟩
      go_wp2_with fail
      refine (H3.out _).mono ?_
      rintro e w1 ⟨rfl, rfl⟩
      go_wp2_with fail
      refine (H4.out _).mono ?_
      rintro e w1 ⟨rfl, rfl⟩
      go_wp2
      go_ret2
      exact ⟨by rw [E.out.1, E.out.2]; try rfl, rfl⟩
    · have E := Lib.hid (F2.2 hx)
      have ht : tuE (dval T : Int) b = 0 := by unfold tuE; exact if_neg (fun h => hx ⟨h.1, by omega⟩)
      rw [ht] at X4
      have H4 := Lib.hid X4
      have H5 := Lib.hid (pWithin_p (tuV (dval T : Int) b) lo hi)
      clear X4 F2 ht hx
      generalize tuV (dval T : Int) b = n at *
      generalize wiE n lo hi = ve at *
      generalize wiV n lo hi = vv at *
      generalize dval T = dv at *
      go_enter Tryd.func10, Tryd.ntmps10
      go_wp2_with fail
      refine (H1.out _).mono ?_
      rintro e w1 ⟨rfl, rfl⟩
      go_wp2_with fail
      refine (H2.out _).mono ?_
      rintro e w1 ⟨rfl, rfl⟩
      go_wp2_with fail
      refine (H3.out _).mono ?_
      rintro e w1 ⟨rfl, rfl⟩
      go_wp2_with fail
      refine (H4.out _).mono ?_
      rintro e w1 ⟨rfl, rfl⟩
      go_wp2_with fail
      refine (H5.out _).mono ?_
      rintro e w1 ⟨rfl, rfl⟩
      go_wp2
      go_ret2
      exact ⟨by rw [E.out.1, E.out.2]; try rfl, rfl⟩
theorem pNum14_any (L : List UInt8) (lo hi : Int) (hL : L.length ≤ 100000) (w : World) : Calls Tryd.prog 10 #[.string (bs L), .int .i64 lo, .int .i64 hi] w fun e w' => e = .returned (.tuple #[.int .i64 (numV L lo hi), .int .i64 (numE L lo hi)]) ∧ Below w.heap.size w w' := grow2 (pNum14_p L lo hi hL w)
set_option maxHeartbeats 1600000 in
theorem pYear_any (L : List UInt8) (hL : L.length ≤ 100000) (w : World) : Calls Tryd.prog 12 #[.string (bs L)] w fun e w' => e = .returned (.tuple #[.int .i64 (numV L (-9999) 9999), .int .i64 (numE L (-9999) 9999)]) ∧ Below w.heap.size w w' := by
  have H := Lib.hid (pNum14_any L (-9999) 9999 hL)
  go_enter Tryd.func12, Tryd.ntmps12
  go_wp2_with fail
  
  refine (H.out _).mono ?_
  rintro e V1 ⟨rfl, hb1⟩
  have B1 : Hid (Below w.heap.size w V1) := by first | exact Lib.hid ((Below.refl w.heap.size w).trans (hb1.mono (by first | assumption | (simp <;> omega) | (simp; done)))) | exact Lib.hid (((Below.refl w.heap.size w).alloc (Nat.le_refl _) _).trans (hb1.mono (by first | assumption | (simp <;> omega) | (simp; done)))) | exact Lib.hid ((((Below.refl w.heap.size w).alloc (Nat.le_refl _) _).alloc (by simp <;> omega) _).trans (hb1.mono (by first | assumption | (simp <;> omega) | (simp; done)))) | exact Lib.hid (((((Below.refl w.heap.size w).alloc (Nat.le_refl _) _).alloc (by simp <;> omega) _).alloc (by simp <;> omega) _).trans (hb1.mono (by first | assumption | (simp <;> omega) | (simp; done))))
  clear hb1
  go_simp
  go_wp2
  go_ret2
  exact ⟨by first | rfl | simp, B1.out⟩
theorem abb_mdE (L : List UInt8) : mdE letN L 6 = abbE L := by
  unfold mdE abbE mdA letAll
  by_cases h : (L.all fun c => letN c.toNat) = true ∧ 1 ≤ L.length ∧ L.length ≤ 6
  · rw [if_pos h, if_pos ⟨h.2.1, by omega, h.1⟩]
  · rw [if_neg h, if_neg (fun x => h ⟨x.2.2, x.1, by omega⟩)]
theorem nam_mdE (L : List UInt8) : mdE namN L 32 = namE L := by
  unfold mdE namE mdA namAll
  by_cases h : 1 ≤ L.length ∧ L.length ≤ 32 ∧ (L.all fun c => namN c.toNat) = true
  · rw [if_pos h, if_pos ⟨h.1, by omega, h.2.2⟩]
  · rw [if_neg h, if_neg (fun x => h ⟨x.1, by omega, x.2.2⟩)]
set_option maxHeartbeats 1600000 in
theorem pAbbr_any (L : List UInt8) (hL : L.length ≤ 100000) (w : World) : Calls Tryd.prog 22 #[.string (bs L)] w fun e w' => e = .returned (.int .i64 (abbE L)) ∧ Below w.heap.size w w' := by
  have X := fun w => grow2 (pMade_letter L 6 (by omega) w)
  rw [abb_mdE] at X
  have H := Lib.hid X
  clear X
  go_enter Tryd.func22, Tryd.ntmps22
  go_wp2_with fail
  
  refine (H.out _).mono ?_
  rintro e V1 ⟨rfl, hb1⟩
  have B1 : Hid (Below w.heap.size w V1) := by first | exact Lib.hid ((Below.refl w.heap.size w).trans (hb1.mono (by first | assumption | (simp <;> omega) | (simp; done)))) | exact Lib.hid (((Below.refl w.heap.size w).alloc (Nat.le_refl _) _).trans (hb1.mono (by first | assumption | (simp <;> omega) | (simp; done)))) | exact Lib.hid ((((Below.refl w.heap.size w).alloc (Nat.le_refl _) _).alloc (by simp <;> omega) _).trans (hb1.mono (by first | assumption | (simp <;> omega) | (simp; done)))) | exact Lib.hid (((((Below.refl w.heap.size w).alloc (Nat.le_refl _) _).alloc (by simp <;> omega) _).alloc (by simp <;> omega) _).trans (hb1.mono (by first | assumption | (simp <;> omega) | (simp; done))))
  clear hb1
  go_simp
  go_wp2
  go_ret
  exact ⟨by first | rfl | simp, B1.out⟩
set_option maxHeartbeats 1600000 in
theorem pName_any (L : List UInt8) (hL : L.length ≤ 100000) (w : World) : Calls Tryd.prog 24 #[.string (bs L)] w fun e w' => e = .returned (.int .i64 (namE L)) ∧ Below w.heap.size w w' := by
  have X := fun w => grow2 (pMade_nameByte L 32 (by omega) w)
  rw [nam_mdE] at X
  have H := Lib.hid X
  clear X
  go_enter Tryd.func24, Tryd.ntmps24
  go_wp2_with fail
  
  refine (H.out _).mono ?_
  rintro e V1 ⟨rfl, hb1⟩
  have B1 : Hid (Below w.heap.size w V1) := by first | exact Lib.hid ((Below.refl w.heap.size w).trans (hb1.mono (by first | assumption | (simp <;> omega) | (simp; done)))) | exact Lib.hid (((Below.refl w.heap.size w).alloc (Nat.le_refl _) _).trans (hb1.mono (by first | assumption | (simp <;> omega) | (simp; done)))) | exact Lib.hid ((((Below.refl w.heap.size w).alloc (Nat.le_refl _) _).alloc (by simp <;> omega) _).trans (hb1.mono (by first | assumption | (simp <;> omega) | (simp; done)))) | exact Lib.hid (((((Below.refl w.heap.size w).alloc (Nat.le_refl _) _).alloc (by simp <;> omega) _).alloc (by simp <;> omega) _).trans (hb1.mono (by first | assumption | (simp <;> omega) | (simp; done))))
  clear hb1
  go_simp
  go_wp2
  go_ret
  exact ⟨by first | rfl | simp, B1.out⟩
end Go.Proofs.YtlbeolialpmnmaaDoor
