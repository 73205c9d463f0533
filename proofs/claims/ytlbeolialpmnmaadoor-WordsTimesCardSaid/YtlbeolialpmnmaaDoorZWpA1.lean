/- Several texts in one: WpA. -/
import Derived.Test.YtlbeolialpmnmaaDoorZWrd1
import Derived.Test.YtlbeolialpmnmaaDoorZWrd2
import Derived.Lib.IndexMore
namespace Go.Proofs.YtlbeolialpmnmaaDoor
set_option linter.unusedVariables false
set_option linter.unusedSimpArgs false
open Go.ChangeShapes Go.WideShapes Go.ChangeAt Go.RowKit
@[irreducible] def frC (c f : UInt8) : Bool := if f.toNat = 48 then dgB c else decide (c.toNat = f.toNat)
theorem frC_0 {c f : UInt8} (h : f.toNat = 48) : frC c f = dgB c := by unfold frC; exact if_pos h
theorem frC_m {c f : UInt8} (h : f.toNat ≠ 48) : frC c f = decide (c.toNat = f.toNat) := by unfold frC; exact if_neg h
@[irreducible] def frB (L F : List UInt8) : Bool := decide (L.length = F.length) && (L.zip F).all (fun p => frC p.1 p.2)
theorem frB_len {L F : List UInt8} (h : L.length ≠ F.length) : frB L F = false := by unfold frB; rw [decide_eq_false h]; rfl
theorem frB_of {L F : List UInt8} (h : L.length = F.length) : frB L F = (L.zip F).all (fun p => frC p.1 p.2) := by unfold frB; rw [decide_eq_true h]; rfl
theorem frB_stop {L F : List UInt8} {k : Nat} (h : L.length = F.length) (hk : k < L.length) (hc : frC L[k] (F[k]'(by omega)) = false) : frB L F = false := by
  rw [frB_of h]
  refine all_stop (k := k) (by simp; omega) ?_
  simpa using hc
theorem frB_step {L F : List UInt8} {k : Nat} (h : L.length = F.length) (hk : k < L.length) (ha : ((L.zip F).take k).all (fun p => frC p.1 p.2) = true) (hc : frC L[k] (F[k]'(by omega)) = true) : ((L.zip F).take (k + 1)).all (fun p => frC p.1 p.2) = true := by
  refine all_take (by simp; omega) ha ?_
  simpa using hc
theorem frB_done {L F : List UInt8} (h : L.length = F.length) (ha : ((L.zip F).take L.length).all (fun p => frC p.1 p.2) = true) : frB L F = true := by
  rw [frB_of h]
  rwa [List.take_of_length_le (by simp; omega)] at ha
theorem frB_at {L F : List UInt8} {k : Nat} (h : frB L F = true) (hk : k < F.length) : ∃ hl : k < L.length, frC L[k] F[k] = true := by
  unfold frB at h
  rw [Bool.and_eq_true, decide_eq_true_eq] at h
  refine ⟨by omega, ?_⟩
  have := List.all_eq_true.1 h.2 (L[k]'(by omega), F[k]) (by
    rw [List.mem_iff_getElem]
    exact ⟨k, by simp; omega, by simp⟩)
  exact this
theorem frB_length {L F : List UInt8} (h : frB L F = true) : L.length = F.length := by
  unfold frB at h
  rw [Bool.and_eq_true, decide_eq_true_eq] at h
  exact h.1
def fS : List UInt8 := [48, 48, 58, 48, 48]
def fL : List UInt8 := [48, 48, 58, 48, 48, 58, 48, 48]
def fM : List UInt8 := [48, 48, 48, 48, 45, 48, 48, 45, 48, 48, 84, 48, 48, 58, 48, 48, 58, 48, 48]
theorem all_two {t : List UInt8} {a : Nat} (h : a + 2 ≤ t.length) : (sub t a 2).all dgB = (dgB (t[a]'(by omega)) && dgB (t[a + 1]'(by omega))) := by
  rw [sub_succ t a 1 (by omega), sub_succ t a 0 (by omega)]
  simp [sub]
theorem all_four {t : List UInt8} {a : Nat} (h : a + 4 ≤ t.length) : (sub t a 4).all dgB = (dgB (t[a]'(by omega)) && dgB (t[a + 1]'(by omega)) && dgB (t[a + 2]'(by omega)) && dgB (t[a + 3]'(by omega))) := by
  rw [sub_succ t a 3 (by omega), sub_succ t a 2 (by omega), sub_succ t a 1 (by omega), sub_succ t a 0 (by omega)]
  simp [sub, Bool.and_assoc]
theorem frS_iff (t : List UInt8) : frB t fS = true ↔ (t.length = 5 ∧ hmF t = true ∧ (sub t 0 2).all dgB = true ∧ (sub t 3 2).all dgB = true) := by
  constructor
  · intro h
    have hl : t.length = 5 := frB_length h
    obtain ⟨_, h0⟩ := frB_at h (k := 0) (by decide)
    obtain ⟨_, h1⟩ := frB_at h (k := 1) (by decide)
    obtain ⟨_, h2⟩ := frB_at h (k := 2) (by decide)
    obtain ⟨_, h3⟩ := frB_at h (k := 3) (by decide)
    obtain ⟨_, h4⟩ := frB_at h (k := 4) (by decide)
    rw [frC_0 (by decide)] at h0 h1 h3 h4
    rw [frC_m (by decide), decide_eq_true_eq] at h2
    refine ⟨hl, hmF_5 hl rfl h2, ?_, ?_⟩
    · rw [all_two (by omega), h0]; exact h1
    · rw [all_two (by omega), h3]; exact h4
  · rintro ⟨hl, hm, ha, hb⟩
    rw [all_two (by omega), Bool.and_eq_true] at ha hb
    unfold hmF at hm
    rw [getD_of (by omega) rfl] at hm
    simp only [Bool.and_eq_true, beq_iff_eq] at hm
    have e2 := hm.1.2
    rw [frB_of hl, List.all_eq_true]
    intro p hp
    obtain ⟨i, hi, rfl⟩ := List.mem_iff_getElem.1 hp
    have hi2 : i < 5 := by simp [hl] at hi; omega
    rw [List.getElem_zip]
    have c0 : frC t[0] fS[0] = true := by rw [frC_0 (by decide)]; exact ha.1
    have c1 : frC t[1] fS[1] = true := by rw [frC_0 (by decide)]; exact ha.2
    have c2 : frC t[2] fS[2] = true := by rw [frC_m (by decide), decide_eq_true_eq]; exact e2
    have c3 : frC t[3] fS[3] = true := by rw [frC_0 (by decide)]; exact hb.1
    have c4 : frC t[4] fS[4] = true := by rw [frC_0 (by decide)]; exact hb.2
    rcases (show i = 0 ∨ i = 1 ∨ i = 2 ∨ i = 3 ∨ i = 4 by omega) with rfl | rfl | rfl | rfl | rfl
    · exact c0
    · exact c1
    · exact c2
    · exact c3
    · exact c4
theorem frL_iff (t : List UInt8) : frB t fL = true ↔ (t.length = 8 ∧ hmF t = true ∧ (sub t 0 2).all dgB = true ∧ (sub t 3 2).all dgB = true ∧ (sub t 6 2).all dgB = true) := by
  constructor
  · intro h
    have hl : t.length = 8 := frB_length h
    obtain ⟨_, h0⟩ := frB_at h (k := 0) (by decide)
    obtain ⟨_, h1⟩ := frB_at h (k := 1) (by decide)
    obtain ⟨_, h2⟩ := frB_at h (k := 2) (by decide)
    obtain ⟨_, h3⟩ := frB_at h (k := 3) (by decide)
    obtain ⟨_, h4⟩ := frB_at h (k := 4) (by decide)
    obtain ⟨_, h5⟩ := frB_at h (k := 5) (by decide)
    obtain ⟨_, h6⟩ := frB_at h (k := 6) (by decide)
    obtain ⟨_, h7⟩ := frB_at h (k := 7) (by decide)
    rw [frC_0 (by decide)] at h0 h1 h3 h4 h6 h7
    rw [frC_m (by decide), decide_eq_true_eq] at h2 h5
    refine ⟨hl, hmF_8 hl rfl h2 rfl h5, ?_, ?_, ?_⟩
    · rw [all_two (by omega), h0]; exact h1
    · rw [all_two (by omega), h3]; exact h4
    · rw [all_two (by omega), h6]; exact h7
  · rintro ⟨hl, hm, ha, hb, hc⟩
    rw [all_two (by omega), Bool.and_eq_true] at ha hb hc
    unfold hmF at hm
    rw [getD_of (by omega) rfl, getD_of (by omega) rfl, decide_eq_false (show ¬ t.length = 5 by omega), Bool.false_or] at hm
    simp only [Bool.and_eq_true, beq_iff_eq] at hm
    have e2 := hm.1.2
    have e5 : (t[5]'(by omega)).toNat = 58 := by simpa using hm.2
    rw [frB_of hl, List.all_eq_true]
    intro p hp
    obtain ⟨i, hi, rfl⟩ := List.mem_iff_getElem.1 hp
    have hi2 : i < 8 := by simp [hl] at hi; omega
    rw [List.getElem_zip]
    have c0 : frC t[0] fL[0] = true := by rw [frC_0 (by decide)]; exact ha.1
    have c1 : frC t[1] fL[1] = true := by rw [frC_0 (by decide)]; exact ha.2
    have c2 : frC t[2] fL[2] = true := by rw [frC_m (by decide), decide_eq_true_eq]; exact e2
    have c3 : frC t[3] fL[3] = true := by rw [frC_0 (by decide)]; exact hb.1
    have c4 : frC t[4] fL[4] = true := by rw [frC_0 (by decide)]; exact hb.2
    have c5 : frC t[5] fL[5] = true := by rw [frC_m (by decide), decide_eq_true_eq]; exact e5
    have c6 : frC t[6] fL[6] = true := by rw [frC_0 (by decide)]; exact hc.1
    have c7 : frC t[7] fL[7] = true := by rw [frC_0 (by decide)]; exact hc.2
    rcases (show i = 0 ∨ i = 1 ∨ i = 2 ∨ i = 3 ∨ i = 4 ∨ i = 5 ∨ i = 6 ∨ i = 7 by omega) with rfl | rfl | rfl | rfl | rfl | rfl | rfl | rfl
    · exact c0
    · exact c1
    · exact c2
    · exact c3
    · exact c4
    · exact c5
    · exact c6
    · exact c7
theorem frM_iff (t : List UInt8) : frB t fM = true ↔ (t.length = 19 ∧ momF t = true ∧ (sub t 0 4).all dgB = true ∧ (sub t 5 2).all dgB = true ∧ (sub t 8 2).all dgB = true ∧ (sub t 11 2).all dgB = true ∧ (sub t 14 2).all dgB = true ∧ (sub t 17 2).all dgB = true) := by
  constructor
  · intro h
    have hl : t.length = 19 := frB_length h
    have g : ∀ (k : Nat) (hk : k < 19) (hk2 : k < t.length), fM[k].toNat = 48 → dgB t[k] = true := fun k hk hk2 h0 => by
      obtain ⟨_, h1⟩ := frB_at h (k := k) hk
      rwa [frC_0 h0] at h1
    have g2 : ∀ (k : Nat) (hk : k < 19) (hk2 : k < t.length), fM[k].toNat ≠ 48 → t[k].toNat = fM[k].toNat := fun k hk hk2 h0 => by
      obtain ⟨_, h1⟩ := frB_at h (k := k) hk
      rwa [frC_m h0, decide_eq_true_eq] at h1
    refine ⟨hl, ?_, ?_, ?_, ?_, ?_, ?_, ?_⟩
    · rw [momF_all hl (g2 4 (by decide) (by omega) (by decide)) (g2 7 (by decide) (by omega) (by decide)) (g2 10 (by decide) (by omega) (by decide)) (g2 13 (by decide) (by omega) (by decide)) (g2 16 (by decide) (by omega) (by decide))]
      decide
    · rw [all_four (by omega), g 0 (by decide) (by omega) (by decide), g 1 (by decide) (by omega) (by decide), g 2 (by decide) (by omega) (by decide), g 3 (by decide) (by omega) (by decide)]; rfl
    · rw [all_two (by omega), g 5 (by decide) (by omega) (by decide), g 6 (by decide) (by omega) (by decide)]; rfl
    · rw [all_two (by omega), g 8 (by decide) (by omega) (by decide), g 9 (by decide) (by omega) (by decide)]; rfl
    · rw [all_two (by omega), g 11 (by decide) (by omega) (by decide), g 12 (by decide) (by omega) (by decide)]; rfl
    · rw [all_two (by omega), g 14 (by decide) (by omega) (by decide), g 15 (by decide) (by omega) (by decide)]; rfl
    · rw [all_two (by omega), g 17 (by decide) (by omega) (by decide), g 18 (by decide) (by omega) (by decide)]; rfl
  · rintro ⟨hl, hm, h0, h5, h8, h11, h14, h17⟩
    rw [momF_all hl rfl rfl rfl rfl rfl] at hm
    simp only [Bool.and_eq_true, beq_iff_eq] at hm
    rw [all_four (by omega)] at h0
    rw [all_two (by omega)] at h5 h8 h11 h14 h17
    simp only [Bool.and_eq_true] at h0 h5 h8 h11 h14 h17
    rw [frB_of hl, List.all_eq_true]
    intro p hp
    obtain ⟨i, hi, rfl⟩ := List.mem_iff_getElem.1 hp
    have hi2 : i < 19 := by simp [hl] at hi; omega
    rw [List.getElem_zip]
    have c0 : frC t[0] fM[0] = true := by rw [frC_0 (by decide)]; exact h0.1.1.1
    have c1 : frC t[1] fM[1] = true := by rw [frC_0 (by decide)]; exact h0.1.1.2
    have c2 : frC t[2] fM[2] = true := by rw [frC_0 (by decide)]; exact h0.1.2
    have c3 : frC t[3] fM[3] = true := by rw [frC_0 (by decide)]; exact h0.2
    have c4 : frC t[4] fM[4] = true := by rw [frC_m (by decide), decide_eq_true_eq]; exact hm.1.1.1.1
    have c5 : frC t[5] fM[5] = true := by rw [frC_0 (by decide)]; exact h5.1
    have c6 : frC t[6] fM[6] = true := by rw [frC_0 (by decide)]; exact h5.2
    have c7 : frC t[7] fM[7] = true := by rw [frC_m (by decide), decide_eq_true_eq]; exact hm.1.1.1.2
    have c8 : frC t[8] fM[8] = true := by rw [frC_0 (by decide)]; exact h8.1
    have c9 : frC t[9] fM[9] = true := by rw [frC_0 (by decide)]; exact h8.2
    have c10 : frC t[10] fM[10] = true := by rw [frC_m (by decide), decide_eq_true_eq]; exact hm.1.1.2
    have c11 : frC t[11] fM[11] = true := by rw [frC_0 (by decide)]; exact h11.1
    have c12 : frC t[12] fM[12] = true := by rw [frC_0 (by decide)]; exact h11.2
    have c13 : frC t[13] fM[13] = true := by rw [frC_m (by decide), decide_eq_true_eq]; exact hm.1.2
    have c14 : frC t[14] fM[14] = true := by rw [frC_0 (by decide)]; exact h14.1
    have c15 : frC t[15] fM[15] = true := by rw [frC_0 (by decide)]; exact h14.2
    have c16 : frC t[16] fM[16] = true := by rw [frC_m (by decide), decide_eq_true_eq]; exact hm.2
    have c17 : frC t[17] fM[17] = true := by rw [frC_0 (by decide)]; exact h17.1
    have c18 : frC t[18] fM[18] = true := by rw [frC_0 (by decide)]; exact h17.2
    rcases (show i = 0 ∨ i = 1 ∨ i = 2 ∨ i = 3 ∨ i = 4 ∨ i = 5 ∨ i = 6 ∨ i = 7 ∨ i = 8 ∨ i = 9 ∨ i = 10 ∨ i = 11 ∨ i = 12 ∨ i = 13 ∨ i = 14 ∨ i = 15 ∨ i = 16 ∨ i = 17 ∨ i = 18 by omega) with rfl | rfl | rfl | rfl | rfl | rfl | rfl | rfl | rfl | rfl | rfl | rfl | rfl | rfl | rfl | rfl | rfl | rfl | rfl
    · exact c0
    · exact c1
    · exact c2
    · exact c3
    · exact c4
    · exact c5
    · exact c6
    · exact c7
    · exact c8
    · exact c9
    · exact c10
    · exact c11
    · exact c12
    · exact c13
    · exact c14
    · exact c15
    · exact c16
    · exact c17
    · exact c18
theorem hms_none {t : List UInt8} (h1 : frB t fS = false) (h2 : frB t fL = false) : hmsV t = -1 := by
  by_cases hm : hmF t = true
  · refine hms_odd ?_
    have hl : t.length = 5 ∨ t.length = 8 := by
      unfold hmF at hm
      simp only [Bool.and_eq_true, Bool.or_eq_true, decide_eq_true_eq] at hm
      exact hm.1.1
    by_cases ha : (sub t 0 2).all dgB = true
    · by_cases hb : (sub t 3 2).all dgB = true
      · rcases hl with hl | hl
        · rw [(frS_iff t).2 ⟨hl, hm, ha, hb⟩] at h1; cases h1
        · by_cases hc : (sub t 6 2).all dgB = true
          · rw [(frL_iff t).2 ⟨hl, hm, ha, hb, hc⟩] at h2; cases h2
          · refine hmO_no (Or.inr (Or.inr (Or.inl ?_)))
            rw [hmX_8 hl, dgV_no hc]; decide
      · refine hmO_no (Or.inr (Or.inl ?_))
        rw [dgV_no hb]; decide
    · refine hmO_no (Or.inl ?_)
      rw [dgV_no ha]; decide
  · exact hms_no (Bool.eq_false_iff.2 hm)
theorem dval_two {t : List UInt8} {a : Nat} (h : (sub t a 2).all dgB = true) : dval (sub t a 2) < 100 := by
  have h1 := dval_lt _ h
  have h2 : (sub t a 2).length ≤ 2 := by unfold sub; simp; omega
  have h3 : 10 ^ (sub t a 2).length ≤ 10 ^ 2 := Nat.pow_le_pow_right (by decide) h2
  omega
theorem hms_5 {t : List UInt8} (h : frB t fS = true) : (dval (sub t 3 2) ≤ 59 → hmsV t = 3600 * (dval (sub t 0 2) : Int) + 60 * (dval (sub t 3 2) : Int)) ∧ (59 < dval (sub t 3 2) → hmsV t = -1) ∧ dval (sub t 0 2) < 100 ∧ dval (sub t 3 2) < 100 := by
  obtain ⟨hl, hm, ha, hb⟩ := (frS_iff t).1 h
  refine ⟨fun h59 => ?_, fun h59 => ?_, dval_two ha, dval_two hb⟩
  · rw [hms_ok hm (by rw [dgV_ok ha, dgV_ok hb, hmX_5 hl]; exact hmO_ok (by omega) (by omega) (by omega) (by omega) (by omega)), dgV_ok ha, dgV_ok hb, hmX_5 hl]
    omega
  · exact hms_odd (by rw [dgV_ok hb]; exact hmO_no (by omega))
theorem hms_8 {t : List UInt8} (h : frB t fL = true) : (dval (sub t 3 2) ≤ 59 → dval (sub t 6 2) ≤ 59 → hmsV t = 3600 * (dval (sub t 0 2) : Int) + 60 * (dval (sub t 3 2) : Int) + (dval (sub t 6 2) : Int)) ∧ (59 < dval (sub t 3 2) ∨ 59 < dval (sub t 6 2) → hmsV t = -1) ∧ dval (sub t 0 2) < 100 ∧ dval (sub t 3 2) < 100 ∧ dval (sub t 6 2) < 100 := by
  obtain ⟨hl, hm, ha, hb, hc⟩ := (frL_iff t).1 h
  refine ⟨fun h59 h60 => ?_, fun h59 => ?_, dval_two ha, dval_two hb, dval_two hc⟩
  · rw [hms_ok hm (by rw [dgV_ok ha, dgV_ok hb, hmX_8 hl, dgV_ok hc]; exact hmO_ok (by omega) (by omega) (by omega) (by omega) (by omega)), dgV_ok ha, dgV_ok hb, hmX_8 hl, dgV_ok hc]
  · exact hms_odd (by rw [dgV_ok hb, hmX_8 hl, dgV_ok hc]; exact hmO_no (by omega))
theorem hms_sign {t : List UInt8} (h : negB t = true) : hmsV t = -1 := by
  obtain ⟨_, h0⟩ := body_neg h
  rw [(neg_at h0).1, beq_iff_eq] at h
  refine hms_none ?_ ?_
  · rw [Bool.eq_false_iff]
    intro hf
    obtain ⟨_, h1⟩ := frB_at hf (k := 0) (by decide)
    rw [frC_0 (by decide), dgB_iff] at h1
    omega
  · rw [Bool.eq_false_iff]
    intro hf
    obtain ⟨_, h1⟩ := frB_at hf (k := 0) (by decide)
    rw [frC_0 (by decide), dgB_iff] at h1
    omega
theorem dval_pos {t : List UInt8} (h : t.all dgB = true) (h1 : 1 ≤ t.length) (hz : zero1 t = false) : 0 < dval t := by
  match t, h1 with
  | c :: r, _ =>
    have hc : dgB c = true := by simp at h; exact h.1
    rw [dgB_iff] at hc
    have hz2 : c.toNat ≠ 48 := by unfold zero1 at hz; simpa using hz
    have key : ∀ (r : List UInt8) (a : Nat), 0 < a → 0 < r.foldl (fun a c => 10 * a + (c.toNat - 48)) a := by
      intro r
      induction r with
      | nil => exact fun a h => h
      | cons d r ih => exact fun a h => ih _ (by show 0 < 10 * a + (d.toNat - 48); omega)
    unfold dval
    exact key r _ (by show 0 < 10 * 0 + (c.toNat - 48); omega)
theorem mom_form {L : List UInt8} (h : frB (bodyN L) fM = false) : momR L = (0, 2) := by
  by_cases hm : momF (bodyN L) = true
  · rw [mom_ok hm]
    have hl : (bodyN L).length = 19 := by
      unfold momF at hm
      simp only [Bool.and_eq_true, decide_eq_true_eq] at hm
      exact hm.1.1.1.1.1
    refine momS_odd ?_
    by_cases h0 : (sub (bodyN L) 0 4).all dgB = true
    · by_cases h5 : (sub (bodyN L) 5 2).all dgB = true
      · by_cases h8 : (sub (bodyN L) 8 2).all dgB = true
        · by_cases h11 : (sub (bodyN L) 11 2).all dgB = true
          · by_cases h14 : (sub (bodyN L) 14 2).all dgB = true
            · by_cases h17 : (sub (bodyN L) 17 2).all dgB = true
              · rw [(frM_iff _).2 ⟨hl, hm, h0, h5, h8, h11, h14, h17⟩] at h; cases h
              · rw [dgV_no h17]; omega
            · rw [dgV_no h14]; omega
          · rw [dgV_no h11]; omega
        · rw [dgV_no h8]; omega
      · rw [dgV_no h5]; omega
    · rw [dgV_no h0]; omega
  · exact mom_no (Bool.eq_false_iff.2 hm)
theorem dval_four {t : List UInt8} (h : (sub t 0 4).all dgB = true) : dval (sub t 0 4) < 10000 := by
  have h1 := dval_lt _ h
  have h2 : (sub t 0 4).length ≤ 4 := by unfold sub; simp; omega
  have h3 : 10 ^ (sub t 0 4).length ≤ 10 ^ 4 := Nat.pow_le_pow_right (by decide) h2
  omega
theorem mom_zero {L : List UInt8} (h : frB (bodyN L) fM = true) (hn : negB L = true) (hy : dval (sub (bodyN L) 0 4) = 0) : momR L = (0, 2) := by
  obtain ⟨hl, hm, h0, h5, h8, h11, h14, h17⟩ := (frM_iff _).1 h
  rw [mom_ok hm, hn, dgV_ok h0, dgV_ok h5, dgV_ok h8, dgV_ok h11, dgV_ok h14, dgV_ok h17, hy]
  exact momS_zero (by omega)
theorem mom_secs {L : List UInt8} (h : frB (bodyN L) fM = true) (hy : ¬ (negB L = true ∧ dval (sub (bodyN L) 0 4) = 0)) :
    momR L = (seT (yrS (negB L) (dval (sub (bodyN L) 0 4))) (dval (sub (bodyN L) 5 2)) (dval (sub (bodyN L) 8 2)) (dval (sub (bodyN L) 11 2)) (dval (sub (bodyN L) 14 2)) (dval (sub (bodyN L) 17 2)) 0,
      ckT (yrS (negB L) (dval (sub (bodyN L) 0 4))) (dval (sub (bodyN L) 5 2)) (dval (sub (bodyN L) 8 2)) (dval (sub (bodyN L) 11 2)) (dval (sub (bodyN L) 14 2)) (dval (sub (bodyN L) 17 2)) 0) := by
  obtain ⟨hl, hm, h0, h5, h8, h11, h14, h17⟩ := (frM_iff _).1 h
  rw [mom_ok hm, dgV_ok h0, dgV_ok h5, dgV_ok h8, dgV_ok h11, dgV_ok h14, dgV_ok h17]
  cases hn : negB L
  · rw [momS_pos (by omega)]; rfl
  · rw [momS_neg (by omega) (by rw [hn] at hy; simp at hy; omega)]; rfl
end Go.Proofs.YtlbeolialpmnmaaDoor
