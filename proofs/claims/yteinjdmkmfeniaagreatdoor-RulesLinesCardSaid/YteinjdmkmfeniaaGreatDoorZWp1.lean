/- Several texts in one: WpA, WpB, WpD, WpC, WpE, WpG. -/
import Derived.Test.YteinjdmkmfeniaaGreatDoorZWrd1
import Derived.Test.YteinjdmkmfeniaaGreatDoorShelf
import Derived.Test.YteinjdmkmfeniaaGreatDoorZRowS1
import Derived.Test.YteinjdmkmfeniaaGreatDoorZCiv1
import Derived.Test.YteinjdmkmfeniaaGreatDoorZTab1
import Derived.Lib.IndexMore
import Derived.BigQuiet
namespace Go.Proofs.YteinjdmkmfeniaaGreatDoor
set_option linter.unusedVariables false
set_option linter.unusedSimpArgs false
open Go.ChangeShapes Go.WideShapes Go.ChangeAt Go.RowKit
@[irreducible] def frC (c f : UInt8) : Bool := if f.toNat = 48 then dgB c else decide (c.toNat = f.toNat)
theorem frC_0 {c f : UInt8} (h : f.toNat = 48) : frC c f = dgB c := by unfold frC; exact if_pos h
theorem frC_m {c f : UInt8} (h : f.toNat ≠ 48) : frC c f = decide (c.toNat = f.toNat) := by unfold frC; exact if_neg h
@[irreducible] def frB (L F : List UInt8) : Bool := decide (L.length = F.length) && (L.zip F).all (fun p => frC p.1 p.2)
theorem frB_len {L F : List UInt8} (h : L.length ≠ F.length) : frB L F = false := by unfold frB; rw [decide_eq_false h]; rfl
theorem frB_of {L F : List UInt8} (h : L.length = F.length) : frB L F = (L.zip F).all (fun p => frC p.1 p.2) := by unfold frB; rw [decide_eq_true h]; rfl
theorem frB_stop {L F : List UInt8} {k : Nat} (h : L.length = F.length) (hk : k < L.length) (hc : frC L[k] (F[k]'(by omega)) = false) : frB L F = false := by
  rw [frB_of h]
  refine all_stop (k := k) (by simp; omega) ?_
  simpa using hc
theorem frB_step {L F : List UInt8} {k : Nat} (h : L.length = F.length) (hk : k < L.length) (ha : ((L.zip F).take k).all (fun p => frC p.1 p.2) = true) (hc : frC L[k] (F[k]'(by omega)) = true) : ((L.zip F).take (k + 1)).all (fun p => frC p.1 p.2) = true := by
  refine all_take (by simp; omega) ha ?_
  simpa using hc
theorem frB_done {L F : List UInt8} (h : L.length = F.length) (ha : ((L.zip F).take L.length).all (fun p => frC p.1 p.2) = true) : frB L F = true := by
  rw [frB_of h]
  rwa [List.take_of_length_le (by simp; omega)] at ha
theorem frB_at {L F : List UInt8} {k : Nat} (h : frB L F = true) (hk : k < F.length) : ∃ hl : k < L.length, frC L[k] F[k] = true := by
  unfold frB at h
  rw [Bool.and_eq_true, decide_eq_true_eq] at h
  refine ⟨by omega, ?_⟩
  have := List.all_eq_true.1 h.2 (L[k]'(by omega), F[k]) (by
    rw [List.mem_iff_getElem]
    exact ⟨k, by simp; omega, by simp⟩)
  exact this
theorem frB_length {L F : List UInt8} (h : frB L F = true) : L.length = F.length := by
  unfold frB at h
  rw [Bool.and_eq_true, decide_eq_true_eq] at h
  exact h.1
def fS : List UInt8 := [48, 48, 58, 48, 48]
def fL : List UInt8 := [48, 48, 58, 48, 48, 58, 48, 48]
def fM : List UInt8 := [48, 48, 48, 48, 45, 48, 48, 45, 48, 48, 84, 48, 48, 58, 48, 48, 58, 48, 48]
theorem all_two {t : List UInt8} {a : Nat} (h : a + 2 ≤ t.length) : (sub t a 2).all dgB = (dgB (t[a]'(by omega)) && dgB (t[a + 1]'(by omega))) := by
  rw [sub_succ t a 1 (by omega), sub_succ t a 0 (by omega)]
  simp [sub]
theorem all_four {t : List UInt8} {a : Nat} (h : a + 4 ≤ t.length) : (sub t a 4).all dgB = (dgB (t[a]'(by omega)) && dgB (t[a + 1]'(by omega)) && dgB (t[a + 2]'(by omega)) && dgB (t[a + 3]'(by omega))) := by
  rw [sub_succ t a 3 (by omega), sub_succ t a 2 (by omega), sub_succ t a 1 (by omega), sub_succ t a 0 (by omega)]
  simp [sub, Bool.and_assoc]
theorem frS_iff (t : List UInt8) : frB t fS = true ↔ (t.length = 5 ∧ hmF t = true ∧ (sub t 0 2).all dgB = true ∧ (sub t 3 2).all dgB = true) := by
  constructor
  · intro h
    have hl : t.length = 5 := frB_length h
    obtain ⟨_, h0⟩ := frB_at h (k := 0) (by decide)
    obtain ⟨_, h1⟩ := frB_at h (k := 1) (by decide)
    obtain ⟨_, h2⟩ := frB_at h (k := 2) (by decide)
    obtain ⟨_, h3⟩ := frB_at h (k := 3) (by decide)
    obtain ⟨_, h4⟩ := frB_at h (k := 4) (by decide)
    rw [frC_0 (by decide)] at h0 h1 h3 h4
    rw [frC_m (by decide), decide_eq_true_eq] at h2
    refine ⟨hl, hmF_5 hl rfl h2, ?_, ?_⟩
    · rw [all_two (by omega), h0]; exact h1
    · rw [all_two (by omega), h3]; exact h4
  · rintro ⟨hl, hm, ha, hb⟩
    rw [all_two (by omega), Bool.and_eq_true] at ha hb
    unfold hmF at hm
    rw [getD_of (by omega) rfl] at hm
    simp only [Bool.and_eq_true, beq_iff_eq] at hm
    have e2 := hm.1.2
    rw [frB_of hl, List.all_eq_true]
    intro p hp
    obtain ⟨i, hi, rfl⟩ := List.mem_iff_getElem.1 hp
    have hi2 : i < 5 := by simp [hl] at hi; omega
    rw [List.getElem_zip]
    have c0 : frC t[0] fS[0] = true := by rw [frC_0 (by decide)]; exact ha.1
    have c1 : frC t[1] fS[1] = true := by rw [frC_0 (by decide)]; exact ha.2
    have c2 : frC t[2] fS[2] = true := by rw [frC_m (by decide), decide_eq_true_eq]; exact e2
    have c3 : frC t[3] fS[3] = true := by rw [frC_0 (by decide)]; exact hb.1
    have c4 : frC t[4] fS[4] = true := by rw [frC_0 (by decide)]; exact hb.2
    rcases (show i = 0 ∨ i = 1 ∨ i = 2 ∨ i = 3 ∨ i = 4 by omega) with rfl | rfl | rfl | rfl | rfl
    · exact c0
    · exact c1
    · exact c2
    · exact c3
    · exact c4
theorem frL_iff (t : List UInt8) : frB t fL = true ↔ (t.length = 8 ∧ hmF t = true ∧ (sub t 0 2).all dgB = true ∧ (sub t 3 2).all dgB = true ∧ (sub t 6 2).all dgB = true) := by
  constructor
  · intro h
    have hl : t.length = 8 := frB_length h
    obtain ⟨_, h0⟩ := frB_at h (k := 0) (by decide)
    obtain ⟨_, h1⟩ := frB_at h (k := 1) (by decide)
    obtain ⟨_, h2⟩ := frB_at h (k := 2) (by decide)
    obtain ⟨_, h3⟩ := frB_at h (k := 3) (by decide)
    obtain ⟨_, h4⟩ := frB_at h (k := 4) (by decide)
    obtain ⟨_, h5⟩ := frB_at h (k := 5) (by decide)
    obtain ⟨_, h6⟩ := frB_at h (k := 6) (by decide)
    obtain ⟨_, h7⟩ := frB_at h (k := 7) (by decide)
    rw [frC_0 (by decide)] at h0 h1 h3 h4 h6 h7
    rw [frC_m (by decide), decide_eq_true_eq] at h2 h5
    refine ⟨hl, hmF_8 hl rfl h2 rfl h5, ?_, ?_, ?_⟩
    · rw [all_two (by omega), h0]; exact h1
    · rw [all_two (by omega), h3]; exact h4
    · rw [all_two (by omega), h6]; exact h7
  · rintro ⟨hl, hm, ha, hb, hc⟩
    rw [all_two (by omega), Bool.and_eq_true] at ha hb hc
    unfold hmF at hm
    rw [getD_of (by omega) rfl, getD_of (by omega) rfl, decide_eq_false (show ¬ t.length = 5 by omega), Bool.false_or] at hm
    simp only [Bool.and_eq_true, beq_iff_eq] at hm
    have e2 := hm.1.2
    have e5 : (t[5]'(by omega)).toNat = 58 := by simpa using hm.2
    rw [frB_of hl, List.all_eq_true]
    intro p hp
    obtain ⟨i, hi, rfl⟩ := List.mem_iff_getElem.1 hp
    have hi2 : i < 8 := by simp [hl] at hi; omega
    rw [List.getElem_zip]
    have c0 : frC t[0] fL[0] = true := by rw [frC_0 (by decide)]; exact ha.1
    have c1 : frC t[1] fL[1] = true := by rw [frC_0 (by decide)]; exact ha.2
    have c2 : frC t[2] fL[2] = true := by rw [frC_m (by decide), decide_eq_true_eq]; exact e2
    have c3 : frC t[3] fL[3] = true := by rw [frC_0 (by decide)]; exact hb.1
    have c4 : frC t[4] fL[4] = true := by rw [frC_0 (by decide)]; exact hb.2
    have c5 : frC t[5] fL[5] = true := by rw [frC_m (by decide), decide_eq_true_eq]; exact e5
    have c6 : frC t[6] fL[6] = true := by rw [frC_0 (by decide)]; exact hc.1
    have c7 : frC t[7] fL[7] = true := by rw [frC_0 (by decide)]; exact hc.2
    rcases (show i = 0 ∨ i = 1 ∨ i = 2 ∨ i = 3 ∨ i = 4 ∨ i = 5 ∨ i = 6 ∨ i = 7 by omega) with rfl | rfl | rfl | rfl | rfl | rfl | rfl | rfl
    · exact c0
    · exact c1
    · exact c2
    · exact c3
    · exact c4
    · exact c5
    · exact c6
    · exact c7
theorem frM_iff (t : List UInt8) : frB t fM = true ↔ (t.length = 19 ∧ momF t = true ∧ (sub t 0 4).all dgB = true ∧ (sub t 5 2).all dgB = true ∧ (sub t 8 2).all dgB = true ∧ (sub t 11 2).all dgB = true ∧ (sub t 14 2).all dgB = true ∧ (sub t 17 2).all dgB = true) := by
  constructor
  · intro h
    have hl : t.length = 19 := frB_length h
    have g : ∀ (k : Nat) (hk : k < 19) (hk2 : k < t.length), fM[k].toNat = 48 → dgB t[k] = true := fun k hk hk2 h0 => by
      obtain ⟨_, h1⟩ := frB_at h (k := k) hk
      rwa [frC_0 h0] at h1
    have g2 : ∀ (k : Nat) (hk : k < 19) (hk2 : k < t.length), fM[k].toNat ≠ 48 → t[k].toNat = fM[k].toNat := fun k hk hk2 h0 => by
      obtain ⟨_, h1⟩ := frB_at h (k := k) hk
      rwa [frC_m h0, decide_eq_true_eq] at h1
    refine ⟨hl, ?_, ?_, ?_, ?_, ?_, ?_, ?_⟩
    · rw [momF_all hl (g2 4 (by decide) (by omega) (by decide)) (g2 7 (by decide) (by omega) (by decide)) (g2 10 (by decide) (by omega) (by decide)) (g2 13 (by decide) (by omega) (by decide)) (g2 16 (by decide) (by omega) (by decide))]
      decide
    · rw [all_four (by omega), g 0 (by decide) (by omega) (by decide), g 1 (by decide) (by omega) (by decide), g 2 (by decide) (by omega) (by decide), g 3 (by decide) (by omega) (by decide)]; rfl
    · rw [all_two (by omega), g 5 (by decide) (by omega) (by decide), g 6 (by decide) (by omega) (by decide)]; rfl
    · rw [all_two (by omega), g 8 (by decide) (by omega) (by decide), g 9 (by decide) (by omega) (by decide)]; rfl
    · rw [all_two (by omega), g 11 (by decide) (by omega) (by decide), g 12 (by decide) (by omega) (by decide)]; rfl
    · rw [all_two (by omega), g 14 (by decide) (by omega) (by decide), g 15 (by decide) (by omega) (by decide)]; rfl
    · rw [all_two (by omega), g 17 (by decide) (by omega) (by decide), g 18 (by decide) (by omega) (by decide)]; rfl
  · rintro ⟨hl, hm, h0, h5, h8, h11, h14, h17⟩
    rw [momF_all hl rfl rfl rfl rfl rfl] at hm
    simp only [Bool.and_eq_true, beq_iff_eq] at hm
    rw [all_four (by omega)] at h0
    rw [all_two (by omega)] at h5 h8 h11 h14 h17
    simp only [Bool.and_eq_true] at h0 h5 h8 h11 h14 h17
    rw [frB_of hl, List.all_eq_true]
    intro p hp
    obtain ⟨i, hi, rfl⟩ := List.mem_iff_getElem.1 hp
    have hi2 : i < 19 := by simp [hl] at hi; omega
    rw [List.getElem_zip]
    have c0 : frC t[0] fM[0] = true := by rw [frC_0 (by decide)]; exact h0.1.1.1
    have c1 : frC t[1] fM[1] = true := by rw [frC_0 (by decide)]; exact h0.1.1.2
    have c2 : frC t[2] fM[2] = true := by rw [frC_0 (by decide)]; exact h0.1.2
    have c3 : frC t[3] fM[3] = true := by rw [frC_0 (by decide)]; exact h0.2
    have c4 : frC t[4] fM[4] = true := by rw [frC_m (by decide), decide_eq_true_eq]; exact hm.1.1.1.1
    have c5 : frC t[5] fM[5] = true := by rw [frC_0 (by decide)]; exact h5.1
    have c6 : frC t[6] fM[6] = true := by rw [frC_0 (by decide)]; exact h5.2
    have c7 : frC t[7] fM[7] = true := by rw [frC_m (by decide), decide_eq_true_eq]; exact hm.1.1.1.2
    have c8 : frC t[8] fM[8] = true := by rw [frC_0 (by decide)]; exact h8.1
    have c9 : frC t[9] fM[9] = true := by rw [frC_0 (by decide)]; exact h8.2
    have c10 : frC t[10] fM[10] = true := by rw [frC_m (by decide), decide_eq_true_eq]; exact hm.1.1.2
    have c11 : frC t[11] fM[11] = true := by rw [frC_0 (by decide)]; exact h11.1
    have c12 : frC t[12] fM[12] = true := by rw [frC_0 (by decide)]; exact h11.2
    have c13 : frC t[13] fM[13] = true := by rw [frC_m (by decide), decide_eq_true_eq]; exact hm.1.2
    have c14 : frC t[14] fM[14] = true := by rw [frC_0 (by decide)]; exact h14.1
    have c15 : frC t[15] fM[15] = true := by rw [frC_0 (by decide)]; exact h14.2
    have c16 : frC t[16] fM[16] = true := by rw [frC_m (by decide), decide_eq_true_eq]; exact hm.2
    have c17 : frC t[17] fM[17] = true := by rw [frC_0 (by decide)]; exact h17.1
    have c18 : frC t[18] fM[18] = true := by rw [frC_0 (by decide)]; exact h17.2
    rcases (show i = 0 ∨ i = 1 ∨ i = 2 ∨ i = 3 ∨ i = 4 ∨ i = 5 ∨ i = 6 ∨ i = 7 ∨ i = 8 ∨ i = 9 ∨ i = 10 ∨ i = 11 ∨ i = 12 ∨ i = 13 ∨ i = 14 ∨ i = 15 ∨ i = 16 ∨ i = 17 ∨ i = 18 by omega) with rfl | rfl | rfl | rfl | rfl | rfl | rfl | rfl | rfl | rfl | rfl | rfl | rfl | rfl | rfl | rfl | rfl | rfl | rfl
    · exact c0
    · exact c1
    · exact c2
    · exact c3
    · exact c4
    · exact c5
    · exact c6
    · exact c7
    · exact c8
    · exact c9
    · exact c10
    · exact c11
    · exact c12
    · exact c13
    · exact c14
    · exact c15
    · exact c16
    · exact c17
    · exact c18
theorem hms_none {t : List UInt8} (h1 : frB t fS = false) (h2 : frB t fL = false) : hmsV t = -1 := by
  by_cases hm : hmF t = true
  · refine hms_odd ?_
    have hl : t.length = 5 ∨ t.length = 8 := by
      unfold hmF at hm
      simp only [Bool.and_eq_true, Bool.or_eq_true, decide_eq_true_eq] at hm
      exact hm.1.1
    by_cases ha : (sub t 0 2).all dgB = true
    · by_cases hb : (sub t 3 2).all dgB = true
      · rcases hl with hl | hl
        · rw [(frS_iff t).2 ⟨hl, hm, ha, hb⟩] at h1; cases h1
        · by_cases hc : (sub t 6 2).all dgB = true
          · rw [(frL_iff t).2 ⟨hl, hm, ha, hb, hc⟩] at h2; cases h2
          · refine hmO_no (Or.inr (Or.inr (Or.inl ?_)))
            rw [hmX_8 hl, dgV_no hc]; decide
      · refine hmO_no (Or.inr (Or.inl ?_))
        rw [dgV_no hb]; decide
    · refine hmO_no (Or.inl ?_)
      rw [dgV_no ha]; decide
  · exact hms_no (Bool.eq_false_iff.2 hm)
theorem dval_two {t : List UInt8} {a : Nat} (h : (sub t a 2).all dgB = true) : dval (sub t a 2) < 100 := by
  have h1 := dval_lt _ h
  have h2 : (sub t a 2).length ≤ 2 := by unfold sub; simp; omega
  have h3 : 10 ^ (sub t a 2).length ≤ 10 ^ 2 := Nat.pow_le_pow_right (by decide) h2
  omega
theorem hms_5 {t : List UInt8} (h : frB t fS = true) : (dval (sub t 3 2) ≤ 59 → hmsV t = 3600 * (dval (sub t 0 2) : Int) + 60 * (dval (sub t 3 2) : Int)) ∧ (59 < dval (sub t 3 2) → hmsV t = -1) ∧ dval (sub t 0 2) < 100 ∧ dval (sub t 3 2) < 100 := by
  obtain ⟨hl, hm, ha, hb⟩ := (frS_iff t).1 h
  refine ⟨fun h59 => ?_, fun h59 => ?_, dval_two ha, dval_two hb⟩
  · rw [hms_ok hm (by rw [dgV_ok ha, dgV_ok hb, hmX_5 hl]; exact hmO_ok (by omega) (by omega) (by omega) (by omega) (by omega)), dgV_ok ha, dgV_ok hb, hmX_5 hl]
    omega
  · exact hms_odd (by rw [dgV_ok hb]; exact hmO_no (by omega))
theorem hms_8 {t : List UInt8} (h : frB t fL = true) : (dval (sub t 3 2) ≤ 59 → dval (sub t 6 2) ≤ 59 → hmsV t = 3600 * (dval (sub t 0 2) : Int) + 60 * (dval (sub t 3 2) : Int) + (dval (sub t 6 2) : Int)) ∧ (59 < dval (sub t 3 2) ∨ 59 < dval (sub t 6 2) → hmsV t = -1) ∧ dval (sub t 0 2) < 100 ∧ dval (sub t 3 2) < 100 ∧ dval (sub t 6 2) < 100 := by
  obtain ⟨hl, hm, ha, hb, hc⟩ := (frL_iff t).1 h
  refine ⟨fun h59 h60 => ?_, fun h59 => ?_, dval_two ha, dval_two hb, dval_two hc⟩
  · rw [hms_ok hm (by rw [dgV_ok ha, dgV_ok hb, hmX_8 hl, dgV_ok hc]; exact hmO_ok (by omega) (by omega) (by omega) (by omega) (by omega)), dgV_ok ha, dgV_ok hb, hmX_8 hl, dgV_ok hc]
  · exact hms_odd (by rw [dgV_ok hb, hmX_8 hl, dgV_ok hc]; exact hmO_no (by omega))
theorem hms_sign {t : List UInt8} (h : negB t = true) : hmsV t = -1 := by
  obtain ⟨_, h0⟩ := body_neg h
  rw [(neg_at h0).1, beq_iff_eq] at h
  refine hms_none ?_ ?_
  · rw [Bool.eq_false_iff]
    intro hf
    obtain ⟨_, h1⟩ := frB_at hf (k := 0) (by decide)
    rw [frC_0 (by decide), dgB_iff] at h1
    omega
  · rw [Bool.eq_false_iff]
    intro hf
    obtain ⟨_, h1⟩ := frB_at hf (k := 0) (by decide)
    rw [frC_0 (by decide), dgB_iff] at h1
    omega
theorem dval_pos {t : List UInt8} (h : t.all dgB = true) (h1 : 1 ≤ t.length) (hz : zero1 t = false) : 0 < dval t := by
  match t, h1 with
  | c :: r, _ =>
    have hc : dgB c = true := by simp at h; exact h.1
    rw [dgB_iff] at hc
    have hz2 : c.toNat ≠ 48 := by unfold zero1 at hz; simpa using hz
    have key : ∀ (r : List UInt8) (a : Nat), 0 < a → 0 < r.foldl (fun a c => 10 * a + (c.toNat - 48)) a := by
      intro r
      induction r with
      | nil => exact fun a h => h
      | cons d r ih => exact fun a h => ih _ (by show 0 < 10 * a + (d.toNat - 48); omega)
    unfold dval
    exact key r _ (by show 0 < 10 * 0 + (c.toNat - 48); omega)
theorem mom_form {L : List UInt8} (h : frB (bodyN L) fM = false) : momR L = (0, 2) := by
  by_cases hm : momF (bodyN L) = true
  · rw [mom_ok hm]
    have hl : (bodyN L).length = 19 := by
      unfold momF at hm
      simp only [Bool.and_eq_true, decide_eq_true_eq] at hm
      exact hm.1.1.1.1.1
    refine momS_odd ?_
    by_cases h0 : (sub (bodyN L) 0 4).all dgB = true
    · by_cases h5 : (sub (bodyN L) 5 2).all dgB = true
      · by_cases h8 : (sub (bodyN L) 8 2).all dgB = true
        · by_cases h11 : (sub (bodyN L) 11 2).all dgB = true
          · by_cases h14 : (sub (bodyN L) 14 2).all dgB = true
            · by_cases h17 : (sub (bodyN L) 17 2).all dgB = true
              · rw [(frM_iff _).2 ⟨hl, hm, h0, h5, h8, h11, h14, h17⟩] at h; cases h
              · rw [dgV_no h17]; omega
            · rw [dgV_no h14]; omega
          · rw [dgV_no h11]; omega
        · rw [dgV_no h8]; omega
      · rw [dgV_no h5]; omega
    · rw [dgV_no h0]; omega
  · exact mom_no (Bool.eq_false_iff.2 hm)
theorem dval_four {t : List UInt8} (h : (sub t 0 4).all dgB = true) : dval (sub t 0 4) < 10000 := by
  have h1 := dval_lt _ h
  have h2 : (sub t 0 4).length ≤ 4 := by unfold sub; simp; omega
  have h3 : 10 ^ (sub t 0 4).length ≤ 10 ^ 4 := Nat.pow_le_pow_right (by decide) h2
  omega
theorem mom_zero {L : List UInt8} (h : frB (bodyN L) fM = true) (hn : negB L = true) (hy : dval (sub (bodyN L) 0 4) = 0) : momR L = (0, 2) := by
  obtain ⟨hl, hm, h0, h5, h8, h11, h14, h17⟩ := (frM_iff _).1 h
  rw [mom_ok hm, hn, dgV_ok h0, dgV_ok h5, dgV_ok h8, dgV_ok h11, dgV_ok h14, dgV_ok h17, hy]
  exact momS_zero (by omega)
theorem mom_secs {L : List UInt8} (h : frB (bodyN L) fM = true) (hy : ¬ (negB L = true ∧ dval (sub (bodyN L) 0 4) = 0)) :
    momR L = (seT (yrS (negB L) (dval (sub (bodyN L) 0 4))) (dval (sub (bodyN L) 5 2)) (dval (sub (bodyN L) 8 2)) (dval (sub (bodyN L) 11 2)) (dval (sub (bodyN L) 14 2)) (dval (sub (bodyN L) 17 2)) 0,
      ckT (yrS (negB L) (dval (sub (bodyN L) 0 4))) (dval (sub (bodyN L) 5 2)) (dval (sub (bodyN L) 8 2)) (dval (sub (bodyN L) 11 2)) (dval (sub (bodyN L) 14 2)) (dval (sub (bodyN L) 17 2)) 0) := by
  obtain ⟨hl, hm, h0, h5, h8, h11, h14, h17⟩ := (frM_iff _).1 h
  rw [mom_ok hm, dgV_ok h0, dgV_ok h5, dgV_ok h8, dgV_ok h11, dgV_ok h14, dgV_ok h17]
  cases hn : negB L
  · rw [momS_pos (by omega)]; rfl
  · rw [momS_neg (by omega) (by rw [hn] at hy; simp at hy; omega)]; rfl
end Go.Proofs.YteinjdmkmfeniaaGreatDoor
namespace Go.Proofs.YteinjdmkmfeniaaGreatDoor
set_option linter.unusedVariables false
set_option linter.unusedSimpArgs false
open Go.ChangeShapes Go.WideShapes Go.ChangeAt Go.RowKit
@[irreducible] def dgN (c : Nat) : Bool := decide (48 ≤ c) && decide (c ≤ 57)
theorem dgN_yes {c : Nat} (h : 48 ≤ c) (h2 : c ≤ 57) : dgN c = true := by unfold dgN; simp; omega
theorem dgN_no {c : Nat} (h : c < 48 ∨ 57 < c) : dgN c = false := by unfold dgN; simp; omega
theorem dgB_dgN (c : UInt8) : dgB c = dgN c.toNat := by unfold dgB dgN; rfl
theorem nam_of (c : Nat) : namN c = (letN c || dgN c || c == 95 || c == 45 || c == 47) := by unfold namN dgN; rfl
set_option maxHeartbeats 1600000 in
theorem pDigit_p (c : Nat) (w : World) : Calls Tryz.prog 67 #[.int .u8 (c : Int)] w fun e w' => e = .returned (.bool (dgN c)) ∧ w = w' := by
  have hc : c < 48 ∨ (48 ≤ c ∧ c ≤ 57) ∨ 57 < c := by omega
  rcases hc with h | ⟨h, h2⟩ | h
  · have E := Lib.hid (dgN_no (Or.inl h))
    go_enter Tryz.func67, Tryz.ntmps67
    go_wp2
    go_ret
    exact ⟨by rw [E.out]; first | rfl | (simp; omega), rfl⟩
  · have E := Lib.hid (dgN_yes h h2)
    go_enter Tryz.func67, Tryz.ntmps67
    go_wp2
    go_ret
    exact ⟨by rw [E.out]; first | rfl | (simp; omega), rfl⟩
  · have E := Lib.hid (dgN_no (Or.inr h))
    go_enter Tryz.func67, Tryz.ntmps67
    go_wp2
    go_ret
    exact ⟨by rw [E.out]; first | rfl | (simp; omega), rfl⟩
set_option maxHeartbeats 1600000 in
theorem pLetter_p (c : Nat) (w : World) : Calls Tryz.prog 66 #[.int .u8 (c : Int)] w fun e w' => e = .returned (.bool (letN c)) ∧ w = w' := by
  rcases let_cases c with ⟨h, E⟩ | ⟨⟨h, h2⟩, E⟩ | ⟨⟨h, h2⟩, E⟩ | ⟨⟨h, h2⟩, E⟩ | ⟨h, E⟩
  all_goals
    replace E := Lib.hid E
    go_enter Tryz.func66, Tryz.ntmps66
    go_wp2
    go_ret
    exact ⟨by rw [E.out]; first | rfl | (simp; omega), rfl⟩
set_option maxHeartbeats 1600000 in
theorem pNameByte_p (c : Nat) (w : World) : Calls Tryz.prog 39 #[.int .u8 (c : Int)] w fun e w' => e = .returned (.bool (namN c)) ∧ w = w' := by
  have H := fun w => pLetter_p c w
  have H2 := fun w => pDigit_p c w
  have E := nam_of c
  have q1 : ((c : Int) == 95) = (c == 95) := by rw [Bool.eq_iff_iff]; simp; omega
  have q2 : ((c : Int) == 45) = (c == 45) := by rw [Bool.eq_iff_iff]; simp; omega
  have q3 : ((c : Int) == 47) = (c == 47) := by rw [Bool.eq_iff_iff]; simp; omega
  generalize (c == 95) = x1 at *
  generalize (c == 45) = x2 at *
  generalize (c == 47) = x3 at *
  cases h1 : letN c
  · cases h2 : dgN c
    · rw [h1] at H
      rw [h2] at H2
      rw [h1, h2] at E
      replace H := Lib.hid H
      replace H2 := Lib.hid H2
      replace h1 := Lib.hid h1
      replace h2 := Lib.hid h2
      replace E := Lib.hid E
      cases x1 <;> cases x2 <;> cases x3
      all_goals
        go_enter Tryz.func39, Tryz.ntmps39
        go_wp2_with fail
        refine (H.out _).mono ?_
        rintro e w1 ⟨rfl, rfl⟩
        go_wp2_with fail
        refine (H2.out _).mono ?_
        rintro e w1 ⟨rfl, rfl⟩
        go_wp2
        go_ret
        exact ⟨by rw [E.out]; rfl, rfl⟩
    · rw [h1] at H
      rw [h2] at H2
      rw [h1, h2] at E
      replace H := Lib.hid H
      replace H2 := Lib.hid H2
      replace h1 := Lib.hid h1
      replace h2 := Lib.hid h2
      replace E := Lib.hid E
      clear q1 q2 q3
      go_enter Tryz.func39, Tryz.ntmps39
      go_wp2_with fail
      refine (H.out _).mono ?_
      rintro e w1 ⟨rfl, rfl⟩
      go_wp2_with fail
      refine (H2.out _).mono ?_
      rintro e w1 ⟨rfl, rfl⟩
      go_wp2
      go_ret
      exact ⟨by rw [E.out]; rfl, rfl⟩
  · rw [h1] at H
    rw [h1] at E
    replace H := Lib.hid H
    replace h1 := Lib.hid h1
    replace E := Lib.hid E
    clear q1 q2 q3 H2
    go_enter Tryz.func39, Tryz.ntmps39
    go_wp2_with fail
    refine (H.out _).mono ?_
    rintro e w1 ⟨rfl, rfl⟩
    go_wp2
    go_ret
    exact ⟨by rw [E.out]; rfl, rfl⟩
def mdA (p : Nat → Bool) (L : List UInt8) : Bool := L.all (fun c => p c.toNat)
@[irreducible] def mdE (p : Nat → Bool) (L : List UInt8) (n : Int) : Int := if 1 ≤ L.length ∧ (L.length : Int) ≤ n ∧ mdA p L = true then 0 else 2
theorem mdE_ok {p : Nat → Bool} {L : List UInt8} {n : Int} (h : 1 ≤ L.length ∧ (L.length : Int) ≤ n ∧ mdA p L = true) : mdE p L n = 0 := by unfold mdE; exact if_pos h
theorem mdE_no {p : Nat → Bool} {L : List UInt8} {n : Int} (h : ¬ (1 ≤ L.length ∧ (L.length : Int) ≤ n ∧ mdA p L = true)) : mdE p L n = 2 := by unfold mdE; exact if_neg h
set_option maxHeartbeats 1600000 in
set_option maxRecDepth 100000 in
theorem pMade_digit (L : List UInt8) (n : Int) (hL : L.length ≤ 9223372036854775807) (w : World) : Calls Tryz.prog 38 #[.string (bs L), .int .i64 n, .func (.func 67) #[] #[]] w fun e w' => e = .returned (.int .i64 (mdE dgN L n)) ∧ w = w' := by
  have hS := bs_size L
  have H := Lib.hid pDigit_p
  by_cases h1 : L.length < 1
  · have E := Lib.hid (mdE_no (p := dgN) (L := L) (n := n) (by omega))
    have q1 : decide ((L.length : Int) < 1) = true := decide_eq_true (by omega)
    go_enter Tryz.func38, Tryz.ntmps38
    go_wp2
    go_ret
    exact ⟨by rw [E.out]; try rfl, rfl⟩
  by_cases h2 : n < (L.length : Int)
  · have E := Lib.hid (mdE_no (p := dgN) (L := L) (n := n) (by omega))
    have q1 : decide ((L.length : Int) < 1) = false := decide_eq_false (by omega)
    have q2 : decide (n < (L.length : Int)) = true := decide_eq_true h2
    go_enter Tryz.func38, Tryz.ntmps38
    go_wp2
    go_ret
    exact ⟨by rw [E.out]; try rfl, rfl⟩
  have q1 : decide ((L.length : Int) < 1) = false := decide_eq_false (by omega)
  have q2 : decide (n < (L.length : Int)) = false := decide_eq_false h2
  have F := Lib.hid (fun h => mdE_ok (p := dgN) (L := L) (n := n) ⟨by omega, by omega, h⟩)
  have F2 := Lib.hid (fun h => mdE_no (p := dgN) (L := L) (n := n) (fun x => absurd (x.2.2) h))
  clear h2
  go_enter Tryz.func38, Tryz.ntmps38
  go_wp2
  go_loop [19] (fun i => ∃ k : Nat, k ≤ L.length ∧ i = .int .i64 (k : Int) ∧ mdA dgN (L.take k) = true) (fun i => L.length - (intOf i).toNat)
  case atStart => exact ⟨0, by omega, rfl, rfl⟩
  case round =>
    obtain ⟨k, hk, rfl, hall⟩ := hrel
    by_cases hlt : k < L.length
    · obtain ⟨c, hc⟩ : ∃ c : Nat, L[k].toNat = c := ⟨_, rfl⟩
      have hb := byte_bs L k hlt (by rw [hS]; exact hlt) hc
      have H2 := H.out c
      cases hl : dgN c
      · have E : Hid (mdE dgN L n = 2) := Lib.hid (F2.out (by
          have e : mdA dgN L = false := all_stop hlt (by rw [hc]; exact hl)
          rw [e]; decide))
        rw [hl] at H2
        replace H2 := Lib.hid H2
        replace hl := Lib.hid hl
        replace hc := Lib.hid hc
        replace hall := Lib.hid hall
        go_wp2_with fail
        refine (H2.out _).mono ?_
        rintro e w1 ⟨rfl, rfl⟩
        go_wp2
        go_ret
        exact ⟨by rw [E.out]; try rfl, rfl⟩
      · have E : Hid (mdA dgN (L.take (k + 1)) = true) := Lib.hid (all_take hlt hall (by rw [hc]; exact hl))
        rw [hl] at H2
        replace H2 := Lib.hid H2
        replace hl := Lib.hid hl
        replace hc := Lib.hid hc
        replace hall := Lib.hid hall
        go_wp2_with fail
        refine (H2.out _).mono ?_
        rintro e w1 ⟨rfl, rfl⟩
        go_wp2
        go_round
        case rel => exact ⟨k + 1, by omega, by go_num, E.out⟩
        case measure => simp [intOf]; omega
    · obtain rfl : k = L.length := by omega
      rw [List.take_length] at hall
      have E := Lib.hid (F.out hall)
      clear H
      replace hall := Lib.hid hall
      go_wp2
      go_ret
      exact ⟨by rw [E.out]; try rfl, rfl⟩
set_option maxHeartbeats 1600000 in
set_option maxRecDepth 100000 in
theorem pMade_letter (L : List UInt8) (n : Int) (hL : L.length ≤ 9223372036854775807) (w : World) : Calls Tryz.prog 38 #[.string (bs L), .int .i64 n, .func (.func 66) #[] #[]] w fun e w' => e = .returned (.int .i64 (mdE letN L n)) ∧ w = w' := by
  have hS := bs_size L
  have H := Lib.hid pLetter_p
  by_cases h1 : L.length < 1
  · have E := Lib.hid (mdE_no (p := letN) (L := L) (n := n) (by omega))
    have q1 : decide ((L.length : Int) < 1) = true := decide_eq_true (by omega)
    go_enter Tryz.func38, Tryz.ntmps38
    go_wp2
    go_ret
    exact ⟨by rw [E.out]; try rfl, rfl⟩
  by_cases h2 : n < (L.length : Int)
  · have E := Lib.hid (mdE_no (p := letN) (L := L) (n := n) (by omega))
    have q1 : decide ((L.length : Int) < 1) = false := decide_eq_false (by omega)
    have q2 : decide (n < (L.length : Int)) = true := decide_eq_true h2
    go_enter Tryz.func38, Tryz.ntmps38
    go_wp2
    go_ret
    exact ⟨by rw [E.out]; try rfl, rfl⟩
  have q1 : decide ((L.length : Int) < 1) = false := decide_eq_false (by omega)
  have q2 : decide (n < (L.length : Int)) = false := decide_eq_false h2
  have F := Lib.hid (fun h => mdE_ok (p := letN) (L := L) (n := n) ⟨by omega, by omega, h⟩)
  have F2 := Lib.hid (fun h => mdE_no (p := letN) (L := L) (n := n) (fun x => absurd (x.2.2) h))
  clear h2
  go_enter Tryz.func38, Tryz.ntmps38
  go_wp2
  go_loop [19] (fun i => ∃ k : Nat, k ≤ L.length ∧ i = .int .i64 (k : Int) ∧ mdA letN (L.take k) = true) (fun i => L.length - (intOf i).toNat)
  case atStart => exact ⟨0, by omega, rfl, rfl⟩
  case round =>
    obtain ⟨k, hk, rfl, hall⟩ := hrel
    by_cases hlt : k < L.length
    · obtain ⟨c, hc⟩ : ∃ c : Nat, L[k].toNat = c := ⟨_, rfl⟩
      have hb := byte_bs L k hlt (by rw [hS]; exact hlt) hc
      have H2 := H.out c
      cases hl : letN c
      · have E : Hid (mdE letN L n = 2) := Lib.hid (F2.out (by
          have e : mdA letN L = false := all_stop hlt (by rw [hc]; exact hl)
          rw [e]; decide))
        rw [hl] at H2
        replace H2 := Lib.hid H2
        replace hl := Lib.hid hl
        replace hc := Lib.hid hc
        replace hall := Lib.hid hall
        go_wp2_with fail
        refine (H2.out _).mono ?_
        rintro e w1 ⟨rfl, rfl⟩
        go_wp2
        go_ret
        exact ⟨by rw [E.out]; try rfl, rfl⟩
      · have E : Hid (mdA letN (L.take (k + 1)) = true) := Lib.hid (all_take hlt hall (by rw [hc]; exact hl))
        rw [hl] at H2
        replace H2 := Lib.hid H2
        replace hl := Lib.hid hl
        replace hc := Lib.hid hc
        replace hall := Lib.hid hall
        go_wp2_with fail
        refine (H2.out _).mono ?_
        rintro e w1 ⟨rfl, rfl⟩
        go_wp2
        go_round
        case rel => exact ⟨k + 1, by omega, by go_num, E.out⟩
        case measure => simp [intOf]; omega
    · obtain rfl : k = L.length := by omega
      rw [List.take_length] at hall
      have E := Lib.hid (F.out hall)
      clear H
      replace hall := Lib.hid hall
      go_wp2
      go_ret
      exact ⟨by rw [E.out]; try rfl, rfl⟩
set_option maxHeartbeats 1600000 in
set_option maxRecDepth 100000 in
theorem pMade_nameByte (L : List UInt8) (n : Int) (hL : L.length ≤ 9223372036854775807) (w : World) : Calls Tryz.prog 38 #[.string (bs L), .int .i64 n, .func (.func 39) #[] #[]] w fun e w' => e = .returned (.int .i64 (mdE namN L n)) ∧ w = w' := by
  have hS := bs_size L
  have H := Lib.hid pNameByte_p
  by_cases h1 : L.length < 1
  · have E := Lib.hid (mdE_no (p := namN) (L := L) (n := n) (by omega))
    have q1 : decide ((L.length : Int) < 1) = true := decide_eq_true (by omega)
    go_enter Tryz.func38, Tryz.ntmps38
    go_wp2
    go_ret
    exact ⟨by rw [E.out]; try rfl, rfl⟩
  by_cases h2 : n < (L.length : Int)
  · have E := Lib.hid (mdE_no (p := namN) (L := L) (n := n) (by omega))
    have q1 : decide ((L.length : Int) < 1) = false := decide_eq_false (by omega)
    have q2 : decide (n < (L.length : Int)) = true := decide_eq_true h2
    go_enter Tryz.func38, Tryz.ntmps38
    go_wp2
    go_ret
    exact ⟨by rw [E.out]; try rfl, rfl⟩
  have q1 : decide ((L.length : Int) < 1) = false := decide_eq_false (by omega)
  have q2 : decide (n < (L.length : Int)) = false := decide_eq_false h2
  have F := Lib.hid (fun h => mdE_ok (p := namN) (L := L) (n := n) ⟨by omega, by omega, h⟩)
  have F2 := Lib.hid (fun h => mdE_no (p := namN) (L := L) (n := n) (fun x => absurd (x.2.2) h))
  clear h2
  go_enter Tryz.func38, Tryz.ntmps38
  go_wp2
  go_loop [19] (fun i => ∃ k : Nat, k ≤ L.length ∧ i = .int .i64 (k : Int) ∧ mdA namN (L.take k) = true) (fun i => L.length - (intOf i).toNat)
  case atStart => exact ⟨0, by omega, rfl, rfl⟩
  case round =>
    obtain ⟨k, hk, rfl, hall⟩ := hrel
    by_cases hlt : k < L.length
    · obtain ⟨c, hc⟩ : ∃ c : Nat, L[k].toNat = c := ⟨_, rfl⟩
      have hb := byte_bs L k hlt (by rw [hS]; exact hlt) hc
      have H2 := H.out c
      cases hl : namN c
      · have E : Hid (mdE namN L n = 2) := Lib.hid (F2.out (by
          have e : mdA namN L = false := all_stop hlt (by rw [hc]; exact hl)
          rw [e]; decide))
        rw [hl] at H2
        replace H2 := Lib.hid H2
        replace hl := Lib.hid hl
        replace hc := Lib.hid hc
        replace hall := Lib.hid hall
        go_wp2_with fail
        refine (H2.out _).mono ?_
        rintro e w1 ⟨rfl, rfl⟩
        go_wp2
        go_ret
        exact ⟨by rw [E.out]; try rfl, rfl⟩
      · have E : Hid (mdA namN (L.take (k + 1)) = true) := Lib.hid (all_take hlt hall (by rw [hc]; exact hl))
        rw [hl] at H2
        replace H2 := Lib.hid H2
        replace hl := Lib.hid hl
        replace hc := Lib.hid hc
        replace hall := Lib.hid hall
        go_wp2_with fail
        refine (H2.out _).mono ?_
        rintro e w1 ⟨rfl, rfl⟩
        go_wp2
        go_round
        case rel => exact ⟨k + 1, by omega, by go_num, E.out⟩
        case measure => simp [intOf]; omega
    · obtain rfl : k = L.length := by omega
      rw [List.take_length] at hall
      have E := Lib.hid (F.out hall)
      clear H
      replace hall := Lib.hid hall
      go_wp2
      go_ret
      exact ⟨by rw [E.out]; try rfl, rfl⟩
set_option maxHeartbeats 1600000 in
set_option maxRecDepth 100000 in
theorem pDigits_p (L : List UInt8) (h : L.all dgB = true) (hL : L.length ≤ 17) (w : World) : Calls Tryz.prog 86 #[.string (bs L)] w fun e w' => e = .returned (.int .i64 (dval L : Int)) ∧ w = w' := by
  have hS := bs_size L
  replace h := Lib.hid h
  go_enter Tryz.func86, Tryz.ntmps86
  go_wp2
  go_loop [3, 7] (fun v i => ∃ k : Nat, k ≤ L.length ∧ i = .int .i64 (k : Int) ∧ v = .int .i64 (dval (L.take k) : Int)) (fun _ i => L.length - (intOf i).toNat)
  case atStart => exact ⟨0, by omega, rfl, rfl⟩
  case round =>
    obtain ⟨k, hk, rfl, rfl⟩ := hrel
    by_cases hlt : k < L.length
    · obtain ⟨c, hc⟩ : ∃ c : Nat, L[k].toNat = c := ⟨_, rfl⟩
      have hb := byte_bs L k hlt (by rw [hS]; exact hlt) hc
      have hd := (dgB_iff _).1 (List.all_eq_true.1 h.out _ (List.getElem_mem hlt))
      rw [hc] at hd
      obtain ⟨h48, h57⟩ := hd
      have hall : (L.take k).all dgB = true := by
        rw [List.all_eq_true]; exact fun x hx => List.all_eq_true.1 h.out x (List.mem_of_mem_take hx)
      have hd1 := dval_lt (L.take k) hall
      rw [show (L.take k).length = k by simp; omega] at hd1
      have hd3 := pow_le18 (n := k) (by omega)
      have hds := dval_snoc (L.take k) L[k]
      rw [← take_snoc hlt, hc] at hds
      replace hc := Lib.hid hc
      replace hds := Lib.hid hds
      replace hall := Lib.hid hall
      generalize dval (L.take k) = v at *
      go_wp2
      go_round
      case rel => exact ⟨k + 1, by omega, by go_num, by rw [hds.out]; go_num⟩
      case measure => simp [intOf]; omega
    · obtain rfl : k = L.length := by omega
      rw [List.take_length]
      go_wp2
      go_ret
      exact ⟨by first | rfl | simp, rfl⟩
set_option maxHeartbeats 1600000 in
set_option maxRecDepth 100000 in
theorem pPair_any (n : Int) (h0 : 0 ≤ n) (h1 : n ≤ 99) (w : World) : Calls Tryz.prog 47 #[.int .i64 n] w fun e w' => e = .returned (.string (bs (twoL n))) ∧ Below w.heap.size w w' := by
  have hp0 : 0 ≤ n / 10 := by omega
  have hp9 : n / 10 ≤ 9 := by omega
  have hq0 : 0 ≤ n % 10 := by omega
  have hq9 : n % 10 ≤ 9 := by omega
  have hc := fun w => conv_two w (n / 10) (n % 10) hp0 hp9 hq0 hq9
  have E : Hid (twoL n = [dgt (n / 10), dgt (n % 10)]) := Lib.hid (by unfold twoL; rw [show n / 10 % 10 = n / 10 by omega])
  generalize hp : n / 10 = p at *
  generalize hq : n % 10 = q at *
  have e1 : n.tdiv 10 = p := by rw [Int.tdiv_eq_ediv_of_nonneg h0]; exact hp
  have e3 : n.tmod 10 = q := by rw [Int.tmod_eq_emod_of_nonneg h0]; exact hq
  replace hp := Lib.hid hp
  replace hq := Lib.hid hq
  go_enter Tryz.func47, Tryz.ntmps47
  go_wp2
  go_ret
  exact ⟨by rw [E.out]; try rfl, (Below.refl _ _).alloc (Nat.le_refl _) _⟩
@[irreducible] def tuV (n : Int) (b : Bool) : Int := if b = true then (if n = 0 then 0 else -n) else n
@[irreducible] def tuE (n : Int) (b : Bool) : Int := if b = true ∧ n = 0 then 2 else 0
theorem tu_zero : tuV 0 true = 0 ∧ tuE 0 true = 2 := by unfold tuV tuE; exact ⟨rfl, rfl⟩
theorem tu_neg {n : Int} (h : n ≠ 0) : tuV n true = -n ∧ tuE n true = 0 := by unfold tuV tuE; exact ⟨by rw [if_pos rfl]; exact if_neg h, if_neg (fun x => h x.2)⟩
theorem tu_pos (n : Int) : tuV n false = n ∧ tuE n false = 0 := by unfold tuV tuE; exact ⟨rfl, rfl⟩
set_option maxHeartbeats 1600000 in
theorem pTurned_p (n : Int) (b : Bool) (h0 : 0 ≤ n) (h1 : n ≤ 1000000) (w : World) : Calls Tryz.prog 77 #[.int .i64 n, .bool b] w fun e w' => e = .returned (.tuple #[.int .i64 (tuV n b), .int .i64 (tuE n b)]) ∧ w = w' := by
  cases b
  · have E := Lib.hid (tu_pos n)
    go_enter Tryz.func77, Tryz.ntmps77
    go_wp2
    go_ret2
    exact ⟨by rw [E.out.1, E.out.2]; try rfl, rfl⟩
  · by_cases h : n = 0
    · subst h
      have E := Lib.hid tu_zero
      go_enter Tryz.func77, Tryz.ntmps77
      go_wp2
      go_ret2
      exact ⟨by rw [E.out.1, E.out.2]; try rfl, rfl⟩
    · have E := Lib.hid (tu_neg h)
      have q : (n == 0) = false := by rw [beq_eq_false_iff_ne]; exact h
      replace h := Lib.hid h
      go_enter Tryz.func77, Tryz.ntmps77
      go_wp2
      go_ret2
      exact ⟨by rw [E.out.1, E.out.2]; first | rfl | go_num, rfl⟩
@[irreducible] def wiV (n lo hi : Int) : Int := if n < lo ∨ hi < n then 0 else n
@[irreducible] def wiE (n lo hi : Int) : Int := if n < lo ∨ hi < n then 8 else 0
theorem wi_no {n lo hi : Int} (h : n < lo ∨ hi < n) : wiV n lo hi = 0 ∧ wiE n lo hi = 8 := by unfold wiV wiE; exact ⟨if_pos h, if_pos h⟩
theorem wi_ok {n lo hi : Int} (h : ¬ (n < lo ∨ hi < n)) : wiV n lo hi = n ∧ wiE n lo hi = 0 := by unfold wiV wiE; exact ⟨if_neg h, if_neg h⟩
set_option maxHeartbeats 1600000 in
theorem pWithin_p (n lo hi : Int) (w : World) : Calls Tryz.prog 46 #[.int .i64 n, .int .i64 lo, .int .i64 hi] w fun e w' => e = .returned (.tuple #[.int .i64 (wiV n lo hi), .int .i64 (wiE n lo hi)]) ∧ w = w' := by
  by_cases h1 : n < lo
  · have E := Lib.hid (wi_no (n := n) (lo := lo) (hi := hi) (Or.inl h1))
    have q : decide (n < lo) = true := decide_eq_true h1
    go_enter Tryz.func46, Tryz.ntmps46
    go_wp2
    go_ret2
    exact ⟨by rw [E.out.1, E.out.2]; try rfl, rfl⟩
  · have q : decide (n < lo) = false := decide_eq_false h1
    by_cases h2 : hi < n
    · have E := Lib.hid (wi_no (n := n) (lo := lo) (hi := hi) (Or.inr h2))
      have q2 : decide (hi < n) = true := decide_eq_true h2
      go_enter Tryz.func46, Tryz.ntmps46
      go_wp2
      go_ret2
      exact ⟨by rw [E.out.1, E.out.2]; try rfl, rfl⟩
    · have E := Lib.hid (wi_ok (n := n) (lo := lo) (hi := hi) (by omega))
      have q2 : decide (hi < n) = false := decide_eq_false h2
      go_enter Tryz.func46, Tryz.ntmps46
      go_wp2
      go_ret2
      exact ⟨by rw [E.out.1, E.out.2]; try rfl, rfl⟩
theorem dwn {B : Nat} {a w : World} (h : Below B a w) (n : Nat) : Below B a (w.drewN n) := ⟨h.os, h.tape, h.output, h.size, h.block⟩
set_option maxHeartbeats 3200000 in
set_option maxRecDepth 100000 in
theorem pFormed_any (L F : List UInt8) (hF : F.length ≤ 100) (w : World) : Calls Tryz.prog 85 #[.string (bs L), .string (bs F)] w fun e w' => e = .returned (.bool (frB L F)) ∧ Below w.heap.size w w' := by
  have hS := bs_size L
  have hS2 := bs_size F
  by_cases hl : L.length = F.length
  · have q0 : ((L.length : Int) == (F.length : Int)) = true := by rw [beq_iff_eq]; omega
    have H := Lib.hid pDigit_p
    go_enter Tryz.func85, Tryz.ntmps85
    go_wp2
    go_loopw [13] (fun i wr => ∃ k : Nat, k ≤ F.length ∧ i = .int .i64 (k : Int) ∧ ((L.zip F).take k).all (fun p => frC p.1 p.2) = true ∧ Below w.heap.size w wr) (fun i _ => F.length - (intOf i).toNat)
    case atStart => exact ⟨0, by omega, rfl, rfl, Below.refl _ _⟩
    case round =>
      obtain ⟨k, hk, rfl, hall, hB⟩ := hrel
      replace hB := Lib.hid hB
      by_cases hlt : k < F.length
      · have hltL : k < L.length := by omega
        obtain ⟨c, hc⟩ : ∃ c : Nat, L[k].toNat = c := ⟨_, rfl⟩
        obtain ⟨f, hf⟩ : ∃ f : Nat, F[k].toNat = f := ⟨_, rfl⟩
        have hb := byte_bs L k hltL (by rw [hS]; exact hltL) hc
        have hb2 := byte_bs F k hlt (by rw [hS2]; exact hlt) hf
        have G := fun hh => frB_stop (k := k) hl hltL hh
        have G2 := fun hh => frB_step (k := k) hl hltL hall hh
        have H2 := H.out c
        replace hall := Lib.hid hall
        by_cases h48 : f = 48
        · rw [frC_0 (by omega), dgB_dgN, hc] at G G2
          subst h48
          cases hd : dgN c
          · have E := Lib.hid (G hd)
            rw [hd] at H2
            replace H2 := Lib.hid H2
            replace hd := Lib.hid hd
            replace hc := Lib.hid hc
            replace hf := Lib.hid hf
            clear G G2 H
            go_wp2_with fail
            go_quiet ((go_at_call 67; exact Calls.quiet_of_same ((H2.out _).mono (fun e w1 x => ⟨x.1, x.2.symm⟩))))
            go_wp2
            go_ret
            exact ⟨by rw [E.out]; try rfl, dwn hB.out _⟩
          · have E := Lib.hid (G2 hd)
            rw [hd] at H2
            replace H2 := Lib.hid H2
            replace hd := Lib.hid hd
            replace hc := Lib.hid hc
            replace hf := Lib.hid hf
            clear G G2 H
            go_wp2_with fail
            go_quiet ((go_at_call 67; exact Calls.quiet_of_same ((H2.out _).mono (fun e w1 x => ⟨x.1, x.2.symm⟩))))
            go_wp2
            go_roundw
            case rel => exact ⟨k + 1, by omega, by go_num, E.out, dwn hB.out _⟩
            case measure => simp [intOf]; omega
        · rw [frC_m (by omega), hc, hf] at G G2
          have q48 : ((f : Int) == 48) = false := by rw [beq_eq_false_iff_ne]; omega
          have q49 : ((f : Int) != 48) = true := by rw [bne_iff_ne]; omega
          by_cases hcf : c = f
          · subst hcf
            have E := Lib.hid (G2 (by simp))
            replace hc := Lib.hid hc
            replace hf := Lib.hid hf
            replace h48 := Lib.hid h48
            clear G G2 H H2
            go_wp2_with fail
            go_quiet (fail)
            go_wp2
            go_roundw
            case rel => exact ⟨k + 1, by omega, by go_num, E.out, dwn hB.out _⟩
            case measure => simp [intOf]; omega
          · have E := Lib.hid (G (by simpa using hcf))
            have qcf : ((c : Int) == (f : Int)) = false := by rw [beq_eq_false_iff_ne]; omega
            have qcg : ((c : Int) != (f : Int)) = true := by rw [bne_iff_ne]; omega
            replace hc := Lib.hid hc
            replace hf := Lib.hid hf
            replace h48 := Lib.hid h48
            replace hcf := Lib.hid hcf
            clear G G2 H H2
            go_wp2_with fail
            go_quiet (fail)
            go_wp2
            go_ret
            exact ⟨by rw [E.out]; try rfl, dwn hB.out _⟩
      · obtain rfl : k = F.length := by omega
        rw [← hl] at hall
        have E := Lib.hid (frB_done hl hall)
        replace hall := Lib.hid hall
        clear H
        go_wp2
        go_ret
        exact ⟨by rw [E.out]; try rfl, hB.out⟩
  · have E := Lib.hid (frB_len hl)
    have q0 : ((L.length : Int) == (F.length : Int)) = false := by rw [beq_eq_false_iff_ne]; omega
    replace hl := Lib.hid hl
    go_enter Tryz.func85, Tryz.ntmps85
    go_wp2
    go_ret
    exact ⟨by rw [E.out]; try rfl, Below.refl _ _⟩
theorem lit_of (a : Array UInt8) (l : List UInt8) (h : a.toList = l) : bs l = (⟨a⟩ : ByteArray) := (bs_lit l a h).symm
set_option maxHeartbeats 1600000 in
set_option maxRecDepth 100000 in
theorem hasPre_p (L P : List UInt8) (w : World) : Calls Tryz.prog 109 #[.string (bs L), .string (bs P)] w fun e w' => e = .returned (.bool (decide (L.take P.length = P))) ∧ w = w' := by
  have hS := bs_size L
  have hS2 := bs_size P
  by_cases h : L.length < P.length
  · have E : Hid (decide (L.take P.length = P) = false) := Lib.hid (decide_eq_false (fun e => by
      have e2 := congrArg List.length e
      rw [List.length_take] at e2
      omega))
    have q : decide ((P.length : Int) ≤ (L.length : Int)) = false := decide_eq_false (by omega)
    go_enter Tryz.func109, Tryz.ntmps109
    go_wp2
    go_ret
    exact ⟨by rw [E.out]; try rfl, rfl⟩
  · have hs := fun W => slice_upto L P.length (by omega) (B := (P.length : Int)) rfl W
    have q : decide ((P.length : Int) ≤ (L.length : Int)) = true := decide_eq_true (by omega)
    have e1 := bs_list (L.take P.length)
    have e2 := bs_list P
    have E : Hid (decide (L.take P.length = P) = (L.take P.length == P)) := Lib.hid (by rw [Bool.eq_iff_iff]; simp)
    generalize L.take P.length = T at *
    go_enter Tryz.func109, Tryz.ntmps109
    go_wp2
    go_ret
    exact ⟨by rw [E.out]; try rfl, rfl⟩
def cpL (L P : List UInt8) : List UInt8 := if L.take P.length = P then L.drop P.length else L
set_option maxHeartbeats 1600000 in
set_option maxRecDepth 100000 in
theorem cutPre_p (L P : List UInt8) (w : World) : Calls Tryz.prog 93 #[.string (bs L), .string (bs P)] w fun e w' => e = .returned (.tuple #[.string (bs (cpL L P)), .bool (decide (L.take P.length = P))]) ∧ w = w' := by
  have hS := bs_size L
  have hS2 := bs_size P
  have H := fun w => hasPre_p L P w
  by_cases h : L.take P.length = P
  · have hle : P.length ≤ L.length := by
      have e2 := congrArg List.length h
      rw [List.length_take] at e2
      omega
    have hs := fun W => slice_from L P.length hle (A := (P.length : Int)) rfl W
    have E : Hid (cpL L P = L.drop P.length ∧ decide (L.take P.length = P) = true) := Lib.hid ⟨if_pos h, decide_eq_true h⟩
    rw [E.out.2] at H
    replace H := Lib.hid H
    replace h := Lib.hid h
    go_enter Tryz.func93, Tryz.ntmps93
    go_wp2_with fail
    refine (H.out _).mono ?_
    rintro e w1 ⟨rfl, rfl⟩
    go_wp2
    go_ret2
    exact ⟨by rw [E.out.1, E.out.2]; try rfl, rfl⟩
  · have E : Hid (cpL L P = L ∧ decide (L.take P.length = P) = false) := Lib.hid ⟨if_neg h, decide_eq_false h⟩
    rw [E.out.2] at H
    replace H := Lib.hid H
    replace h := Lib.hid h
    go_enter Tryz.func93, Tryz.ntmps93
    go_wp2_with fail
    refine (H.out _).mono ?_
    rintro e w1 ⟨rfl, rfl⟩
    go_wp2
    go_ret2
    exact ⟨by rw [E.out.1, E.out.2]; try rfl, rfl⟩
set_option maxHeartbeats 1600000 in
theorem sCutPre_p (L P : List UInt8) (w : World) : Calls Tryz.prog 75 #[.string (bs L), .string (bs P)] w fun e w' => e = .returned (.tuple #[.string (bs (cpL L P)), .bool (decide (L.take P.length = P))]) ∧ w = w' := by
  have H := Lib.hid (fun w => cutPre_p L P w)
  go_enter Tryz.func75, Tryz.ntmps75
  go_wp2_with fail
  refine (H.out _).mono ?_
  rintro e w1 ⟨rfl, rfl⟩
  go_wp2
  go_ret2
  exact ⟨by first | rfl | simp, rfl⟩
theorem neg_take (L : List UInt8) : decide (L.take 1 = [45]) = negB L ∧ cpL L [45] = bodyN L := by
  have key : decide (L.take 1 = [45]) = negB L := by
    match L with
    | [] => rfl
    | c :: r =>
      unfold negB
      rw [Bool.eq_iff_iff, decide_eq_true_eq, beq_iff_eq]
      simp
      exact ⟨fun h => by rw [h]; rfl, fun h => UInt8.toNat_inj.1 h⟩
  refine ⟨key, ?_⟩
  unfold cpL bodyN
  cases h : negB L
  · rw [h] at key; rw [if_neg (by simpa using key)]; exact (if_neg (by decide)).symm
  · rw [h] at key; rw [if_pos (by simpa using key)]; exact (if_pos rfl).symm
theorem cutNeg_p (L : List UInt8) (w : World) : Calls Tryz.prog 75 #[.string (bs L), .string ⟨#[45]⟩] w fun e w' => e = .returned (.tuple #[.string (bs (bodyN L)), .bool (negB L)]) ∧ w = w' := by
  have H := sCutPre_p L [45] w
  rw [lit_of #[45] [45] rfl] at H
  rw [(neg_take L).2, show decide (L.take ([45] : List UInt8).length = [45]) = negB L from (neg_take L).1] at H
  exact H
def plsB (L : List UInt8) : Bool := decide (L.take 1 = [43])
theorem cutPls_p (L : List UInt8) (w : World) : Calls Tryz.prog 75 #[.string (bs L), .string ⟨#[43]⟩] w fun e w' => e = .returned (.tuple #[.string (bs (cpL L [43])), .bool (plsB L)]) ∧ w = w' := by
  have H := sCutPre_p L [43] w
  rw [lit_of #[43] [43] rfl] at H
  exact H
theorem cutLast_p (L : List UInt8) (w : World) : Calls Tryz.prog 75 #[.string (bs L), .string ⟨#[108, 97, 115, 116, 45]⟩] w fun e w' => e = .returned (.tuple #[.string (bs (cpL L lastL)), .bool (decide (L.take 5 = lastL))]) ∧ w = w' := by
  have H := sCutPre_p L lastL w
  rw [lit_of #[108, 97, 115, 116, 45] lastL rfl] at H
  exact H
end Go.Proofs.YteinjdmkmfeniaaGreatDoor
namespace Go.Proofs.YteinjdmkmfeniaaGreatDoor
set_option linter.unusedVariables false
set_option linter.unusedSimpArgs false
open Go.ChangeShapes Go.WideShapes Go.ChangeAt Go.RowKit
theorem cut_none {t s : List UInt8} (h : Lib.index t s = -1) : Lib.cut t s = (t, [], false) := by unfold Lib.cut; rw [h]; rfl
theorem cut_some {t s : List UInt8} {i : Nat} (h : Lib.index t s = (i : Int)) : Lib.cut t s = (t.take i, t.drop (i + s.length), true) := by
  unfold Lib.cut; rw [h, if_pos (by omega)]; rfl
theorem occ_at {t : List UInt8} {a b : UInt8} {i : Nat} (h : Lib.occAt t [a, b] i = true) : t[i]? = some a ∧ t[i + 1]? = some b ∧ i + 2 ≤ t.length := by
  unfold Lib.occAt at h
  obtain ⟨r, hr⟩ := List.isPrefixOf_iff_prefix.1 h
  have h0 : (t.drop i)[0]? = some a := by rw [← hr]; rfl
  have h1 : (t.drop i)[1]? = some b := by rw [← hr]; rfl
  have hl : (t.drop i).length = 2 + r.length := by rw [← hr]; simp; omega
  rw [List.getElem?_drop] at h0 h1
  rw [List.length_drop] at hl
  exact ⟨by simpa using h0, h1, by omega⟩
theorem at_occ {t : List UInt8} {a b : UInt8} {i : Nat} (h0 : t[i]? = some a) (h1 : t[i + 1]? = some b) : Lib.occAt t [a, b] i = true := by
  unfold Lib.occAt
  rw [List.isPrefixOf_iff_prefix]
  obtain ⟨p, e0⟩ := List.getElem?_eq_some_iff.1 h0
  obtain ⟨q, e1⟩ := List.getElem?_eq_some_iff.1 h1
  rw [List.drop_eq_getElem_cons p, List.drop_eq_getElem_cons q, e0, e1]
  exact ⟨_, rfl⟩
theorem mid_at {t : List UInt8} {a b : UInt8} (h : 5 ≤ t.length) : (t.take 5).drop 3 = [a, b] ↔ (t[3]? = some a ∧ t[4]? = some b) := by
  match t, h with
  | x0 :: x1 :: x2 :: x3 :: x4 :: r, _ => simp
theorem wk_letters {t : List UInt8} (h : wkdI (t.take 3) ≠ 0) {i : Nat} (hi : i < 3) : ∃ c, t[i]? = some c ∧ 97 ≤ c.toNat := by
  have b := wkd_bd (t.take 3)
  have e := wkd_some h
  have g : t[i]? = (t.take 3)[i]? := by rw [List.getElem?_take, if_pos hi]
  rw [g, e]
  generalize wkdI (t.take 3) = k at *
  have hk : k = 1 ∨ k = 2 ∨ k = 3 ∨ k = 4 ∨ k = 5 ∨ k = 6 ∨ k = 7 := by omega
  have hi3 : i = 0 ∨ i = 1 ∨ i = 2 := by omega
  clear g e b h hi
  rcases hk with rfl | rfl | rfl | rfl | rfl | rfl | rfl <;> rcases hi3 with rfl | rfl | rfl <;> exact ⟨_, rfl, by decide⟩
theorem num_byte {t : List UInt8} {lo hi : Int} {c : UInt8} {i : Nat} (h : t[i]? = some c) (hd : c.toNat < 48 ∨ 57 < c.toNat) (h45 : c.toNat ≠ 45) : numE t lo hi = 2 := by
  refine (num_form (numF_odd (neg := negB t) ?_)).1
  rw [List.all_eq_true]
  intro hall
  have hm : c ∈ bodyN t := by
    have hc : c ∈ t := List.mem_of_getElem? h
    by_cases hn : negB t = true
    · obtain ⟨e, h0⟩ := body_neg hn
      rw [e]
      match t, h0 with
      | d :: r, _ =>
        have hd : d.toNat = 45 := by unfold negB at hn; simpa using hn
        rcases List.mem_cons.1 hc with rfl | hr
        · exact absurd hd h45
        · exact hr
    · rw [body_pos (Bool.eq_false_iff.2 hn)]; exact hc
  have := hall c hm
  rw [dgB_iff] at this
  omega
theorem num_nil (lo hi : Int) : numE [] lo hi = 2 := (num_form (numF_short (by decide))).1
@[irreducible] def bndR (k : Int) (a b : List UInt8) : Int × Int × Int × Int := if wkdI a = 0 then (0, 0, 0, 2) else if numE b 1 31 = 0 then (k, numV b 1 31, wkdI a, 0) else (0, 0, 0, numE b 1 31)
theorem bnd_no {k : Int} {a b : List UInt8} (h : wkdI a = 0) : bndR k a b = (0, 0, 0, 2) := by unfold bndR; exact if_pos h
theorem bnd_ok {k : Int} {a b : List UInt8} (h : wkdI a ≠ 0) (h2 : numE b 1 31 = 0) : bndR k a b = (k, numV b 1 31, wkdI a, 0) := by unfold bndR; rw [if_neg h]; exact if_pos h2
theorem bnd_err {k : Int} {a b : List UInt8} (h : wkdI a ≠ 0) (h2 : numE b 1 31 ≠ 0) : bndR k a b = (0, 0, 0, numE b 1 31) := by unfold bndR; rw [if_neg h]; exact if_neg h2
theorem wk_three {t : List UInt8} (h : wkdI t ≠ 0) : t.length = 3 := by
  have b := wkd_bd t
  rw [wkd_some h]
  exact wkS_len _ (by omega) (by omega)
theorem day_first {t : List UInt8} (hno : t.take 5 ≠ lastL) {i : Nat} (hi : Lib.index t [62, 61] = (i : Int)) : dayR t = bndR 2 (t.take i) (t.drop (i + 2)) := by
  rcases Lib.index_spec t [62, 61] with ⟨h1, _⟩ | ⟨j, h1, hj, hocc, hbef⟩
  · omega
  obtain rfl : j = i := by omega
  obtain ⟨e0, e1, hroom⟩ := occ_at hocc
  have hodd : numE t 1 31 = 2 := num_byte e0 (by decide) (by decide)
  by_cases hw : wkdI (t.take j) = 0
  · rw [bnd_no hw]
    by_cases h5 : 5 < t.length ∧ 0 < wkdI (t.take 3)
    · have hl := fun i hi => wk_letters (t := t) (by omega) (i := i) hi
      have hj3 : 3 ≤ j := by
        by_cases hlt : j < 3
        · obtain ⟨c, hc, h97⟩ := hl j hlt
          rw [hc] at e0; obtain rfl := Option.some.inj e0; exact absurd h97 (by decide)
        · omega
      have hj3n : j ≠ 3 := by rintro rfl; omega
      by_cases ha : (t.take 5).drop 3 = [62, 61]
      · rw [mid_at (by omega)] at ha
        have := hbef 3 (by omega)
        rw [at_occ ha.1 ha.2] at this; cases this
      · by_cases hb : (t.take 5).drop 3 = [60, 61]
        · rw [day_before hno h5.1 h5.2 hb]
          rw [mid_at (by omega)] at hb
          have hj4 : j ≠ 4 := by
            rintro rfl
            rw [hb.2] at e0; revert e0; decide
          have e2 : (t.drop 5)[j - 5]? = some 62 := by rw [List.getElem?_drop, show 5 + (j - 5) = j by omega]; exact e0
          rw [num_byte e2 (by decide) (by decide)]; rfl
        · exact day_odd hno h5.1 h5.2 ha hb
    · rw [day_date (fun h => hno h.2) h5, hodd]; rfl
  · have h3 := wk_three hw
    rw [List.length_take] at h3
    obtain rfl : j = 3 := by omega
    have wb := wkd_bd (t.take 3)
    by_cases h5 : 5 < t.length
    · rw [day_from hno h5 (by omega) ((mid_at (by omega)).2 ⟨e0, e1⟩)]
      unfold bndR; rw [if_neg hw]
    · rw [day_date (fun h => hno h.2) (fun h => h5 h.1), hodd, show t.drop (3 + 2) = [] by rw [List.drop_eq_nil_iff]; omega]
      rw [bnd_err hw (by rw [num_nil]; decide), num_nil]; rfl
theorem day_second {t : List UInt8} (hno : t.take 5 ≠ lastL) (hF : Lib.index t [62, 61] = -1) {i : Nat} (hi : Lib.index t [60, 61] = (i : Int)) : dayR t = bndR 3 (t.take i) (t.drop (i + 2)) := by
  have hnF : ∀ k, k ≤ t.length → Lib.occAt t [62, 61] k = false := by
    rcases Lib.index_spec t [62, 61] with ⟨_, h⟩ | ⟨j, h1, _⟩
    · exact h
    · omega
  rcases Lib.index_spec t [60, 61] with ⟨h1, _⟩ | ⟨j, h1, hj, hocc, hbef⟩
  · omega
  obtain rfl : j = i := by omega
  obtain ⟨e0, e1, hroom⟩ := occ_at hocc
  have hodd : numE t 1 31 = 2 := num_byte e0 (by decide) (by decide)
  by_cases hw : wkdI (t.take j) = 0
  · rw [bnd_no hw]
    by_cases h5 : 5 < t.length ∧ 0 < wkdI (t.take 3)
    · have hl := fun i hi => wk_letters (t := t) (by omega) (i := i) hi
      have hj3 : 3 ≤ j := by
        by_cases hlt : j < 3
        · obtain ⟨c, hc, h97⟩ := hl j hlt
          rw [hc] at e0; obtain rfl := Option.some.inj e0; exact absurd h97 (by decide)
        · omega
      have hj3n : j ≠ 3 := by rintro rfl; omega
      by_cases ha : (t.take 5).drop 3 = [62, 61]
      · rw [mid_at (by omega)] at ha
        have := hnF 3 (by omega)
        rw [at_occ ha.1 ha.2] at this; cases this
      · by_cases hb : (t.take 5).drop 3 = [60, 61]
        · rw [mid_at (by omega)] at hb
          have := hbef 3 (by omega)
          rw [at_occ hb.1 hb.2] at this; cases this
        · exact day_odd hno h5.1 h5.2 ha hb
    · rw [day_date (fun h => hno h.2) h5, hodd]; rfl
  · have h3 := wk_three hw
    rw [List.length_take] at h3
    obtain rfl : j = 3 := by omega
    have wb := wkd_bd (t.take 3)
    by_cases h5 : 5 < t.length
    · rw [day_before hno h5 (by omega) ((mid_at (by omega)).2 ⟨e0, e1⟩)]
      unfold bndR; rw [if_neg hw]
    · rw [day_date (fun h => hno h.2) (fun h => h5 h.1), hodd, show t.drop (3 + 2) = [] by rw [List.drop_eq_nil_iff]; omega]
      rw [bnd_err hw (by rw [num_nil]; decide), num_nil]; rfl
theorem day_none {t : List UInt8} (hno : t.take 5 ≠ lastL) (hF : Lib.index t [62, 61] = -1) (hB : Lib.index t [60, 61] = -1) : dayR t = (if numE t 1 31 = 0 then (0, numV t 1 31, 0, 0) else (0, 0, 0, numE t 1 31)) := by
  have hnF : ∀ k, k ≤ t.length → Lib.occAt t [62, 61] k = false := by
    rcases Lib.index_spec t [62, 61] with ⟨_, h⟩ | ⟨j, h1, _⟩
    · exact h
    · omega
  have hnB : ∀ k, k ≤ t.length → Lib.occAt t [60, 61] k = false := by
    rcases Lib.index_spec t [60, 61] with ⟨_, h⟩ | ⟨j, h1, _⟩
    · exact h
    · omega
  by_cases h5 : 5 < t.length ∧ 0 < wkdI (t.take 3)
  · obtain ⟨c, hc, h97⟩ := wk_letters (t := t) (by omega) (i := 0) (by decide)
    have e := num_byte (lo := 1) (hi := 31) hc (by omega) (by omega)
    rw [e]
    refine day_odd hno h5.1 h5.2 (fun ha => ?_) (fun hb => ?_)
    · rw [mid_at (by omega)] at ha
      have := hnF 3 (by omega)
      rw [at_occ ha.1 ha.2] at this; cases this
    · rw [mid_at (by omega)] at hb
      have := hnB 3 (by omega)
      rw [at_occ hb.1 hb.2] at this; cases this
  · exact day_date (fun h => hno h.2) h5
end Go.Proofs.YteinjdmkmfeniaaGreatDoor
namespace Go.Proofs.YteinjdmkmfeniaaGreatDoor
set_option linter.unusedVariables false
set_option linter.unusedSimpArgs false
open Go.ChangeShapes Go.WideShapes Go.ChangeAt Go.RowKit
def dnT : List (List UInt8) := [[109, 111, 110], [116, 117, 101], [119, 101, 100], [116, 104, 117], [102, 114, 105], [115, 97, 116], [115, 117, 110]]
structure DN (w : World) : Prop where
  cell : ∀ i : Nat, i < 7 → w.cell? ⟨2, i, none⟩ = some (.string (bs (dnT.getD i [])))
  size : 2 < w.heap.size
theorem dn_keep {w w' : World} (h : Hid (DN w)) (hb : Below w.heap.size w w') : DN w' :=
  ⟨fun i hi => (hb.cell (p := ⟨2, i, none⟩) h.out.size).trans (h.out.cell i hi), Nat.lt_of_lt_of_le h.out.size hb.size⟩
structure ML (w : World) : Prop where
  cell : ∃ m : Int, w.cell? ⟨4, 0, none⟩ = some (.int .i64 m)
  size : 4 < w.heap.size
theorem ml_keep {w w' : World} (h : Hid (ML w)) (hb : Below w.heap.size w w') : ML w' := by
  obtain ⟨m, hm⟩ := h.out.cell
  exact ⟨⟨m, (hb.cell (p := ⟨4, 0, none⟩) h.out.size).trans hm⟩, Nat.lt_of_lt_of_le h.out.size hb.size⟩
structure TW (w : World) : Prop where
  tb : TB w
  dn : DN w
  ml : ML w
theorem tw_keep {w w' : World} (h : Hid (TW w)) (hb : Below w.heap.size w w') : TW w' := ⟨tb_keep (Lib.hid h.out.tb) hb, dn_keep (Lib.hid h.out.dn) hb, ml_keep (Lib.hid h.out.ml) hb⟩
def wdE (t : List UInt8) : Int := if wkdI t = 0 then 2 else 0
theorem wd_at {t : List UInt8} {k : Nat} (hk : k < 7) (h : t = dnT.getD k []) : wkdI t = (k : Int) + 1 ∧ wdE t = 0 := by
  have e : wkdI t = (k : Int) + 1 := by
    rw [h]
    match k, hk with
    | 0, _ => exact wkd_1
    | 1, _ => exact wkd_2
    | 2, _ => exact wkd_3
    | 3, _ => exact wkd_4
    | 4, _ => exact wkd_5
    | 5, _ => exact wkd_6
    | 6, _ => exact wkd_7
  exact ⟨e, if_neg (by rw [e]; omega)⟩
theorem wd_no {t : List UInt8} (h : ∀ k, k < 7 → t ≠ dnT.getD k []) : wkdI t = 0 ∧ wdE t = 2 := by
  have e := wkd_none (h 0 (by decide)) (h 1 (by decide)) (h 2 (by decide)) (h 3 (by decide)) (h 4 (by decide)) (h 5 (by decide)) (h 6 (by decide))
  exact ⟨e, if_pos e⟩
def dnV : Value := .agg #[.string (bs [109, 111, 110]), .string (bs [116, 117, 101]), .string (bs [119, 101, 100]), .string (bs [116, 104, 117]), .string (bs [102, 114, 105]), .string (bs [115, 97, 116]), .string (bs [115, 117, 110])]
set_option maxHeartbeats 3200000 in
set_option maxRecDepth 100000 in
theorem pWeekday14_p (t : List UInt8) (w : World) (hM : DN w) : Calls Tryz.prog 80 #[.string (bs t)] w fun e w' => e = .returned (.tuple #[.int .i64 (wkdI t), .int .i64 (wdE t)]) ∧ w = w' := by
  have c0 : w.cell? ⟨2, 0, none⟩ = some (.string (bs [109, 111, 110])) := hM.cell 0 (by decide)
  have c1 : w.cell? ⟨2, 1, none⟩ = some (.string (bs [116, 117, 101])) := hM.cell 1 (by decide)
  have c2 : w.cell? ⟨2, 2, none⟩ = some (.string (bs [119, 101, 100])) := hM.cell 2 (by decide)
  have c3 : w.cell? ⟨2, 3, none⟩ = some (.string (bs [116, 104, 117])) := hM.cell 3 (by decide)
  have c4 : w.cell? ⟨2, 4, none⟩ = some (.string (bs [102, 114, 105])) := hM.cell 4 (by decide)
  have c5 : w.cell? ⟨2, 5, none⟩ = some (.string (bs [115, 97, 116])) := hM.cell 5 (by decide)
  have c6 : w.cell? ⟨2, 6, none⟩ = some (.string (bs [115, 117, 110])) := hM.cell 6 (by decide)
  have zg := hM.size
  clear hM
  have hi : ∀ (k : Nat), k < 7 → ∀ w, (Instr.index 93 dnV (.int .i64 (k : Int))).run Tryz.prog w = .ok (.string (bs (dnT.getD k []))) w := by
    intro k hk
    match k, hk with
    | 0, _ => exact fun _ => by kernel_rfl
    | 1, _ => exact fun _ => by kernel_rfl
    | 2, _ => exact fun _ => by kernel_rfl
    | 3, _ => exact fun _ => by kernel_rfl
    | 4, _ => exact fun _ => by kernel_rfl
    | 5, _ => exact fun _ => by kernel_rfl
    | 6, _ => exact fun _ => by kernel_rfl
  unfold dnV at hi
  have lt := bs_list t
  go_enter Tryz.func80, Tryz.ntmps80
  go_wp2
  go_loop [7] (fun i => ∃ k : Nat, k ≤ 7 ∧ i = .int .i64 (k : Int) ∧ Hid (∀ j, j < k → t ≠ dnT.getD j [])) (fun i => 7 - (intOf i).toNat)
  case atStart => exact ⟨0, by omega, rfl, Lib.hid (fun j hj => by omega)⟩
  case round =>
    obtain ⟨k, hk, rfl, hno⟩ := hrel
    by_cases hlt : k < 7
    · have hik := hi k hlt
      have lk := bs_list (dnT.getD k [])
      by_cases he : t = dnT.getD k []
      · have E := Lib.hid (wd_at hlt he)
        have hq : (t == dnT.getD k []) = true := by rw [beq_iff_eq]; exact he
        clear hi c0 c1 c2 c3 c4 c5 c6
        replace he := Lib.hid he
        generalize dnT.getD k [] = D at *
        go_wp2
        go_ret2
        exact ⟨by rw [E.out.1, E.out.2]; first | rfl | go_num, rfl⟩
      · have hq : (t == dnT.getD k []) = false := by rw [beq_eq_false_iff_ne]; exact he
        have E : Hid (∀ j, j < k + 1 → t ≠ dnT.getD j []) := Lib.hid (fun j hj => by
          by_cases hjk : j = k
          · subst hjk; exact he
          · exact hno.out j (by omega))
        clear hi c0 c1 c2 c3 c4 c5 c6
        replace he := Lib.hid he
        generalize dnT.getD k [] = D at *
        go_wp2
        go_round
        case rel => exact ⟨k + 1, by omega, by go_num, E⟩
        case measure => simp [intOf]; omega
    · obtain rfl : k = 7 := by omega
      have E := Lib.hid (wd_no hno.out)
      clear hi c0 c1 c2 c3 c4 c5 c6
      go_wp2
      go_ret2
      exact ⟨by rw [E.out.1, E.out.2]; try rfl, rfl⟩
end Go.Proofs.YteinjdmkmfeniaaGreatDoor
namespace Go.Proofs.YteinjdmkmfeniaaGreatDoor
set_option linter.unusedVariables false
set_option linter.unusedSimpArgs false
open Go.ChangeShapes Go.WideShapes Go.ChangeAt Go.RowKit
theorem grow2 {P : Program} {f : Nat} {args : Array Value} {w : World} {r : Ending} (h : Calls P f args w fun e w' => e = r ∧ w = w') : Calls P f args w fun e w' => e = r ∧ Below w.heap.size w w' := h.mono fun e w' ⟨a, b⟩ => ⟨a, b ▸ Below.refl _ _⟩
@[irreducible] def plT (T : List UInt8) : Bool := (mdE dgN T 6 == 0) && (decide (T.length = 1) || !zero1 T)
theorem mdA_all (T : List UInt8) : mdA dgN T = T.all dgB := by
  unfold mdA
  induction T with
  | nil => rfl
  | cons c r ih => rw [List.all_cons, List.all_cons, ih, dgB_dgN]
theorem pl_no {T : List UInt8} (h : plT T = false) (b : Bool) : numF T b = false := by
  rw [Bool.eq_false_iff]
  intro hf
  unfold numF at hf
  simp only [Bool.and_eq_true, decide_eq_true_eq, Bool.not_eq_true'] at hf
  obtain ⟨⟨⟨h1, h6⟩, ha⟩, hz⟩ := hf
  unfold plT at h
  rw [mdE_ok ⟨h1, by omega, by rw [mdA_all]; exact ha⟩] at h
  simp at h
  rw [h.2] at hz
  simp at hz
  omega
theorem pl_yes {T : List UInt8} (h : plT T = true) : 1 ≤ T.length ∧ T.length ≤ 6 ∧ T.all dgB = true ∧ (T.length = 1 ∨ zero1 T = false) := by
  unfold plT at h
  rw [Bool.and_eq_true] at h
  obtain ⟨h1, h2⟩ := h
  by_cases hm : 1 ≤ T.length ∧ (T.length : Int) ≤ 6 ∧ mdA dgN T = true
  · refine ⟨hm.1, by omega, by rw [← mdA_all]; exact hm.2.2, ?_⟩
    simpa using h2
  · rw [mdE_no hm] at h1; simp at h1
theorem dval_six {T : List UInt8} (h : T.all dgB = true) (h6 : T.length ≤ 6) : dval T ≤ 999999 := by
  have h1 := dval_lt T h
  have h2 : 10 ^ T.length ≤ 10 ^ 6 := Nat.pow_le_pow_right (by decide) h6
  omega
theorem zero_val {T : List UInt8} (h : T.all dgB = true) (h1 : T.length = 1) (hz : zero1 T = true) : dval T = 0 := by
  match T, h1 with
  | [c], _ =>
    have hc : c.toNat = 48 := by unfold zero1 at hz; simpa using hz
    simp [dval, hc]
theorem num_tu {L : List UInt8} {lo hi : Int} (h : plT (bodyN L) = true) :
    (negB L = true ∧ dval (bodyN L) = 0 → numE L lo hi = 2 ∧ numV L lo hi = 0) ∧
    (¬ (negB L = true ∧ dval (bodyN L) = 0) → numE L lo hi = wiE (tuV (dval (bodyN L)) (negB L)) lo hi ∧ numV L lo hi = wiV (tuV (dval (bodyN L)) (negB L)) lo hi) := by
  obtain ⟨h1, h6, ha, hz⟩ := pl_yes h
  constructor
  · rintro ⟨hn, hv⟩
    have hz1 : zero1 (bodyN L) = true := by
      cases q : zero1 (bodyN L)
      · have := dval_pos ha h1 q; omega
      · rfl
    exact num_form (numF_zero hz1 (Or.inr hn))
  · intro hno
    have hF : numF (bodyN L) (negB L) = true := by
      refine numF_yes h1 h6 ha ?_
      cases q : zero1 (bodyN L)
      · exact Or.inl rfl
      · right
        have hl : (bodyN L).length = 1 := by
          rcases hz with hz | hz
          · exact hz
          · rw [q] at hz; cases hz
        refine ⟨by omega, ?_⟩
        cases hn : negB L
        · rfl
        · exact absurd ⟨hn, zero_val ha hl q⟩ hno
    have hI : numI L = tuV (dval (bodyN L)) (negB L) := by
      cases hn : negB L
      · rw [numI_pos hn, (tu_pos _).1]
      · rw [numI_neg hn, (tu_neg (by rw [hn] at hno; simp at hno; omega)).1]
    rw [← hI]
    by_cases hr : numI L < lo ∨ hi < numI L
    · rw [(num_range hF hr).1, (num_range hF hr).2, (wi_no hr).1, (wi_no hr).2]; exact ⟨rfl, rfl⟩
    · rw [(num_ok hF hr).1, (num_ok hF hr).2, (wi_ok hr).1, (wi_ok hr).2]; exact ⟨rfl, rfl⟩
set_option maxHeartbeats 1600000 in
set_option maxRecDepth 100000 in
theorem pPlain_p (T : List UInt8) (hL : T.length ≤ 9223372036854775807) (w : World) : Calls Tryz.prog 101 #[.string (bs T)] w fun e w' => e = .returned (.bool (plT T)) ∧ w = w' := by
  have hS := bs_size T
  have H := pMade_digit T 6 hL
  by_cases hm : 1 ≤ T.length ∧ (T.length : Int) ≤ 6 ∧ mdA dgN T = true
  · have e := mdE_ok hm
    rw [e] at H
    replace H := Lib.hid H
    by_cases h1 : T.length = 1
    · have E : Hid (plT T = true) := Lib.hid (by unfold plT; rw [e, decide_eq_true h1]; rfl)
      have q1 : ((T.length : Int) == 1) = true := by rw [beq_iff_eq]; omega
      replace hm := Lib.hid hm
      replace h1 := Lib.hid h1
      replace e := Lib.hid e
      go_enter Tryz.func101, Tryz.ntmps101
      go_wp2_with fail
      refine (H.out _).mono ?_
      rintro e w1 ⟨rfl, rfl⟩
      go_wp2
      go_ret
      exact ⟨by rw [E.out]; try rfl, rfl⟩
    · have h0 : 0 < T.length := by omega
      obtain ⟨c, hc⟩ : ∃ c : Nat, T[0].toNat = c := ⟨_, rfl⟩
      have hb := byte_bs T 0 h0 (by rw [hS]; exact h0) hc
      have hz := (neg_at h0).2
      rw [hc] at hz
      have q1 : ((T.length : Int) == 1) = false := by rw [beq_eq_false_iff_ne]; omega
      have q2 : ((c : Int) != 48) = !(c == 48) := by rw [Bool.eq_iff_iff]; simp; omega
      have E : Hid (plT T = !(c == 48)) := Lib.hid (by unfold plT; rw [e, decide_eq_false h1, hz]; rfl)
      generalize (c == 48) = x at *
      replace hm := Lib.hid hm
      replace h1 := Lib.hid h1
      replace e := Lib.hid e
      replace hz := Lib.hid hz
      replace hc := Lib.hid hc
      cases x
      all_goals
        go_enter Tryz.func101, Tryz.ntmps101
        go_wp2_with fail
        refine (H.out _).mono ?_
        rintro e w1 ⟨rfl, rfl⟩
        go_wp2
        go_ret
        exact ⟨by rw [E.out]; try rfl, rfl⟩
  · have e := mdE_no hm
    rw [e] at H
    replace H := Lib.hid H
    have E : Hid (plT T = false) := Lib.hid (by unfold plT; rw [e]; rfl)
    replace hm := Lib.hid hm
    replace e := Lib.hid e
    go_enter Tryz.func101, Tryz.ntmps101
    go_wp2_with fail
    refine (H.out _).mono ?_
    rintro e w1 ⟨rfl, rfl⟩
    go_wp2
    go_ret
    exact ⟨by rw [E.out]; try rfl, rfl⟩
set_option maxHeartbeats 3200000 in
set_option maxRecDepth 100000 in
theorem pNum14_p (L : List UInt8) (lo hi : Int) (hL : L.length ≤ 100000) (w : World) : Calls Tryz.prog 84 #[.string (bs L), .int .i64 lo, .int .i64 hi] w fun e w' => e = .returned (.tuple #[.int .i64 (numV L lo hi), .int .i64 (numE L lo hi)]) ∧ w = w' := by
  have X1 := fun w => cutNeg_p L w
  have hT : (bodyN L).length ≤ 100000 := by
    unfold bodyN
    split
    · rw [List.length_drop]; omega
    · exact hL
  have X2 := fun w => pPlain_p (bodyN L) (by omega) w
  have F0 := fun h => num_form (L := L) (lo := lo) (hi := hi) (pl_no h (negB L))
  have F1 := fun h => num_tu (L := L) (lo := lo) (hi := hi) h
  obtain ⟨T, hTT⟩ : ∃ T, bodyN L = T := ⟨_, rfl⟩
  obtain ⟨b, hbb⟩ : ∃ b, negB L = b := ⟨_, rfl⟩
  rw [hTT] at X1 X2 F0 F1 hT
  rw [hbb] at X1 F1
  cases hp : plT T
  · have E := Lib.hid (F0 hp)
    rw [hp] at X2
    have H1 := Lib.hid X1
    have H2 := Lib.hid X2
    clear X1 X2 F0 F1 hp hT hTT hbb
    go_enter Tryz.func84, Tryz.ntmps84
    go_wp2_with fail
    refine (H1.out _).mono ?_
    rintro e w1 ⟨rfl, rfl⟩
    go_wp2_with fail
    refine (H2.out _).mono ?_
    rintro e w1 ⟨rfl, rfl⟩
    go_wp2
    go_ret2
    exact ⟨by rw [E.out.1, E.out.2]; try rfl, rfl⟩
  · obtain ⟨h1, h6, ha, hz⟩ := pl_yes hp
    have hv := dval_six ha h6
    have X3 := fun w => pDigits_p T ha (by omega) w
    have X4 := fun w => pTurned_p (dval T : Int) b (by omega) (by omega) w
    have F2 := F1 hp
    rw [hp] at X2
    have H1 := Lib.hid X1
    have H2 := Lib.hid X2
    have H3 := Lib.hid X3
    clear F0 F1 hp hTT hbb X1 X2 X3 hz ha
    by_cases hx : b = true ∧ dval T = 0
    · have E := Lib.hid (F2.1 hx)
      obtain ⟨rfl, h0⟩ := hx
      rw [h0] at H3 X4
      rw [show ((0 : Nat) : Int) = 0 from rfl, tu_zero.1, tu_zero.2] at X4
      have H4 := Lib.hid X4
      clear X4 F2 h0 hv
      go_enter Tryz.func84, Tryz.ntmps84
      go_wp2_with fail
      refine (H1.out _).mono ?_
      rintro e w1 ⟨rfl, rfl⟩
      go_wp2_with fail
      refine (H2.out _).mono ?_
      rintro e w1 ⟨rfl, rfl⟩
      go_wp2_with fail
      refine (H3.out _).mono ?_
      rintro e w1 ⟨rfl, rfl⟩
      go_wp2_with fail
      refine (H4.out _).mono ?_
      rintro e w1 ⟨rfl, rfl⟩
      go_wp2
      go_ret2
      exact ⟨by rw [E.out.1, E.out.2]; try rfl, rfl⟩
    · have E := Lib.hid (F2.2 hx)
      have ht : tuE (dval T : Int) b = 0 := by unfold tuE; exact if_neg (fun h => hx ⟨h.1, by omega⟩)
      rw [ht] at X4
      have H4 := Lib.hid X4
      have H5 := Lib.hid (pWithin_p (tuV (dval T : Int) b) lo hi)
      clear X4 F2 ht hx
      generalize tuV (dval T : Int) b = n at *
      generalize wiE n lo hi = ve at *
      generalize wiV n lo hi = vv at *
      generalize dval T = dv at *
      go_enter Tryz.func84, Tryz.ntmps84
      go_wp2_with fail
      refine (H1.out _).mono ?_
      rintro e w1 ⟨rfl, rfl⟩
      go_wp2_with fail
      refine (H2.out _).mono ?_
      rintro e w1 ⟨rfl, rfl⟩
      go_wp2_with fail
      refine (H3.out _).mono ?_
      rintro e w1 ⟨rfl, rfl⟩
      go_wp2_with fail
      refine (H4.out _).mono ?_
      rintro e w1 ⟨rfl, rfl⟩
      go_wp2_with fail
      refine (H5.out _).mono ?_
      rintro e w1 ⟨rfl, rfl⟩
      go_wp2
      go_ret2
      exact ⟨by rw [E.out.1, E.out.2]; try rfl, rfl⟩
theorem pNum14_any (L : List UInt8) (lo hi : Int) (hL : L.length ≤ 100000) (w : World) : Calls Tryz.prog 84 #[.string (bs L), .int .i64 lo, .int .i64 hi] w fun e w' => e = .returned (.tuple #[.int .i64 (numV L lo hi), .int .i64 (numE L lo hi)]) ∧ Below w.heap.size w w' := grow2 (pNum14_p L lo hi hL w)
set_option maxHeartbeats 1600000 in
theorem pYear_any (L : List UInt8) (hL : L.length ≤ 100000) (w : World) : Calls Tryz.prog 95 #[.string (bs L)] w fun e w' => e = .returned (.tuple #[.int .i64 (numV L (-9999) 9999), .int .i64 (numE L (-9999) 9999)]) ∧ Below w.heap.size w w' := by
  have H := Lib.hid (pNum14_any L (-9999) 9999 hL)
  go_enter Tryz.func95, Tryz.ntmps95
  go_wp2_with fail
  
  refine (H.out _).mono ?_
  rintro e V1 ⟨rfl, hb1⟩
  have B1 : Hid (Below w.heap.size w V1) := by first | exact Lib.hid ((Below.refl w.heap.size w).trans (hb1.mono (by first | assumption | (simp <;> omega) | (simp; done)))) | exact Lib.hid (((Below.refl w.heap.size w).alloc (Nat.le_refl _) _).trans (hb1.mono (by first | assumption | (simp <;> omega) | (simp; done)))) | exact Lib.hid ((((Below.refl w.heap.size w).alloc (Nat.le_refl _) _).alloc (by simp <;> omega) _).trans (hb1.mono (by first | assumption | (simp <;> omega) | (simp; done)))) | exact Lib.hid (((((Below.refl w.heap.size w).alloc (Nat.le_refl _) _).alloc (by simp <;> omega) _).alloc (by simp <;> omega) _).trans (hb1.mono (by first | assumption | (simp <;> omega) | (simp; done))))
  clear hb1
  go_simp
  go_wp2
  go_ret2
  exact ⟨by first | rfl | simp, B1.out⟩
theorem abb_mdE (L : List UInt8) : mdE letN L 6 = abbE L := by
  unfold mdE abbE mdA letAll
  by_cases h : (L.all fun c => letN c.toNat) = true ∧ 1 ≤ L.length ∧ L.length ≤ 6
  · rw [if_pos h, if_pos ⟨h.2.1, by omega, h.1⟩]
  · rw [if_neg h, if_neg (fun x => h ⟨x.2.2, x.1, by omega⟩)]
theorem nam_mdE (L : List UInt8) : mdE namN L 32 = namE L := by
  unfold mdE namE mdA namAll
  by_cases h : 1 ≤ L.length ∧ L.length ≤ 32 ∧ (L.all fun c => namN c.toNat) = true
  · rw [if_pos h, if_pos ⟨h.1, by omega, h.2.2⟩]
  · rw [if_neg h, if_neg (fun x => h ⟨x.1, by omega, x.2.2⟩)]
set_option maxHeartbeats 1600000 in
theorem pAbbr_all (L : List UInt8) (hL : L.length ≤ 9223372036854775807) (w : World) : Calls Tryz.prog 40 #[.string (bs L)] w fun e w' => e = .returned (.int .i64 (abbE L)) ∧ Below w.heap.size w w' := by
  have X := fun w => grow2 (pMade_letter L 6 hL w)
  rw [abb_mdE] at X
  have H := Lib.hid X
  clear X
  go_enter Tryz.func40, Tryz.ntmps40
  go_wp2_with fail
  
  refine (H.out _).mono ?_
  rintro e V1 ⟨rfl, hb1⟩
  have B1 : Hid (Below w.heap.size w V1) := by first | exact Lib.hid ((Below.refl w.heap.size w).trans (hb1.mono (by first | assumption | (simp <;> omega) | (simp; done)))) | exact Lib.hid (((Below.refl w.heap.size w).alloc (Nat.le_refl _) _).trans (hb1.mono (by first | assumption | (simp <;> omega) | (simp; done)))) | exact Lib.hid ((((Below.refl w.heap.size w).alloc (Nat.le_refl _) _).alloc (by simp <;> omega) _).trans (hb1.mono (by first | assumption | (simp <;> omega) | (simp; done)))) | exact Lib.hid (((((Below.refl w.heap.size w).alloc (Nat.le_refl _) _).alloc (by simp <;> omega) _).alloc (by simp <;> omega) _).trans (hb1.mono (by first | assumption | (simp <;> omega) | (simp; done))))
  clear hb1
  go_simp
  go_wp2
  go_ret
  exact ⟨by first | rfl | simp, B1.out⟩
theorem pAbbr_any (L : List UInt8) (hL : L.length ≤ 100000) (w : World) : Calls Tryz.prog 40 #[.string (bs L)] w fun e w' => e = .returned (.int .i64 (abbE L)) ∧ Below w.heap.size w w' := pAbbr_all L (by omega) w
set_option maxHeartbeats 1600000 in
theorem pName_all (L : List UInt8) (hL : L.length ≤ 9223372036854775807) (w : World) : Calls Tryz.prog 18 #[.string (bs L)] w fun e w' => e = .returned (.int .i64 (namE L)) ∧ Below w.heap.size w w' := by
  have X := fun w => grow2 (pMade_nameByte L 32 hL w)
  rw [nam_mdE] at X
  have H := Lib.hid X
  clear X
  go_enter Tryz.func18, Tryz.ntmps18
  go_wp2_with fail
  
  refine (H.out _).mono ?_
  rintro e V1 ⟨rfl, hb1⟩
  have B1 : Hid (Below w.heap.size w V1) := by first | exact Lib.hid ((Below.refl w.heap.size w).trans (hb1.mono (by first | assumption | (simp <;> omega) | (simp; done)))) | exact Lib.hid (((Below.refl w.heap.size w).alloc (Nat.le_refl _) _).trans (hb1.mono (by first | assumption | (simp <;> omega) | (simp; done)))) | exact Lib.hid ((((Below.refl w.heap.size w).alloc (Nat.le_refl _) _).alloc (by simp <;> omega) _).trans (hb1.mono (by first | assumption | (simp <;> omega) | (simp; done)))) | exact Lib.hid (((((Below.refl w.heap.size w).alloc (Nat.le_refl _) _).alloc (by simp <;> omega) _).alloc (by simp <;> omega) _).trans (hb1.mono (by first | assumption | (simp <;> omega) | (simp; done))))
  clear hb1
  go_simp
  go_wp2
  go_ret
  exact ⟨by first | rfl | simp, B1.out⟩
theorem pName_any (L : List UInt8) (hL : L.length ≤ 100000) (w : World) : Calls Tryz.prog 18 #[.string (bs L)] w fun e w' => e = .returned (.int .i64 (namE L)) ∧ Below w.heap.size w w' := pName_all L (by omega) w
end Go.Proofs.YteinjdmkmfeniaaGreatDoor
namespace Go.Proofs.YteinjdmkmfeniaaGreatDoor
set_option linter.unusedVariables false
set_option linter.unusedSimpArgs false
open Go.ChangeShapes Go.WideShapes Go.ChangeAt Go.RowKit
@[irreducible] def seV (t : List UInt8) : Int := if hmsV t < 0 then 0 else hmsV t
@[irreducible] def seE (t : List UInt8) : Int := if hmsV t < 0 then 2 else 0
theorem se_no {t : List UInt8} (h : hmsV t < 0) : seV t = 0 ∧ seE t = 2 := by unfold seV seE; exact ⟨if_pos h, if_pos h⟩
theorem se_ok {t : List UInt8} (h : ¬ hmsV t < 0) : seV t = hmsV t ∧ seE t = 0 := by unfold seV seE; exact ⟨if_neg h, if_neg h⟩
theorem fS_fL {t : List UInt8} (h : frB t fL = true) : frB t fS = false := by
  refine frB_len ?_
  have := frB_length h
  rw [this]; decide
theorem formS_any (t : List UInt8) (w : World) : Calls Tryz.prog 85 #[.string (bs t), .string ⟨#[48, 48, 58, 48, 48]⟩] w fun e w' => e = .returned (.bool (frB t fS)) ∧ Below w.heap.size w w' := by
  have H := pFormed_any t fS (by decide) w
  rw [lit_of #[48, 48, 58, 48, 48] fS rfl] at H
  exact H
theorem formL_any (t : List UInt8) (w : World) : Calls Tryz.prog 85 #[.string (bs t), .string ⟨#[48, 48, 58, 48, 48, 58, 48, 48]⟩] w fun e w' => e = .returned (.bool (frB t fL)) ∧ Below w.heap.size w w' := by
  have H := pFormed_any t fL (by decide) w
  rw [lit_of #[48, 48, 58, 48, 48, 58, 48, 48] fL rfl] at H
  exact H
theorem sub_a (t : List UInt8) (n : Nat) : t.take n = sub t 0 n := rfl
theorem sub_b (t : List UInt8) (a n : Nat) : (t.take (a + n)).drop a = sub t a n := by unfold sub; rw [List.drop_take]; congr 1; omega
theorem sub_c (t : List UInt8) (a n : Nat) (h : t.length = a + n) : t.drop a = sub t a n := by unfold sub; rw [List.take_of_length_le (by simp; omega)]
set_option maxHeartbeats 3200000 in
set_option maxRecDepth 100000 in
theorem secs_5 (t : List UInt8) (h : frB t fS = true) (w : World) : Calls Tryz.prog 76 #[.string (bs t)] w fun e w' => e = .returned (.tuple #[.int .i64 (seV t), .int .i64 (seE t)]) ∧ Below w.heap.size w w' := by
  obtain ⟨k1, k2, b0, b3⟩ := hms_5 h
  obtain ⟨hl, _, a0, a3⟩ := (frS_iff t).1 h
  have hS := bs_size t
  rw [hl] at hS
  have X1 := formS_any t
  rw [h] at X1
  have s2 := fun W => slice_upto t 2 (by omega) (B := 2) rfl W
  have s35 := fun W => slice_bs t 3 5 (by decide) (by omega) (A := 3) (B := 5) rfl rfl W
  rw [sub_a] at s2
  rw [sub_b t 3 2] at s35
  have X3 := fun w => pDigits_p (sub t 0 2) a0 (by unfold sub; simp; omega) w
  have X4 := fun w => pDigits_p (sub t 3 2) a3 (by unfold sub; simp; omega) w
  have H1 := Lib.hid X1
  have H3 := Lib.hid X3
  have H4 := Lib.hid X4
  clear X1 X3 X4 a0 a3 h
  by_cases h59 : dval (sub t 3 2) ≤ 59
  · have E : Hid (seV t = 3600 * (dval (sub t 0 2) : Int) + 60 * (dval (sub t 3 2) : Int) ∧ seE t = 0) := Lib.hid (by
      have e := k1 h59
      rw [← e]; exact se_ok (by omega))
    have q : decide ((59 : Int) < (dval (sub t 3 2) : Int)) = false := decide_eq_false (by omega)
    clear k1 k2
    generalize dval (sub t 0 2) = x at *
    generalize dval (sub t 3 2) = y at *
    generalize sub t 0 2 = T0 at *
    generalize sub t 3 2 = T3 at *
    go_enter Tryz.func76, Tryz.ntmps76
    go_wp2_with fail
    refine (H1.out _).mono ?_
    rintro e w1 ⟨rfl, hb⟩
    replace hb := Lib.hid hb
    go_wp2_with fail
    go_quiet (first | (go_at_call_of 86 (Value.string (bs T0)); exact Calls.quiet_of_same ((H3.out _).mono (fun e w1 x => ⟨x.1, x.2.symm⟩))) | (go_at_call_of 86 (Value.string (bs T3)); exact Calls.quiet_of_same ((H4.out _).mono (fun e w1 x => ⟨x.1, x.2.symm⟩))))
    go_wp2
    go_ret2
    refine ⟨?_, dwn hb.out _⟩
    rw [E.out.1, E.out.2]; try rfl
    first | rfl | go_num | (simp; omega)
  · have E : Hid (seV t = 0 ∧ seE t = 2) := Lib.hid (se_no (by have e := k2 (by omega); omega))
    have q : decide ((59 : Int) < (dval (sub t 3 2) : Int)) = true := decide_eq_true (by omega)
    clear k1 k2
    generalize dval (sub t 0 2) = x at *
    generalize dval (sub t 3 2) = y at *
    generalize sub t 0 2 = T0 at *
    generalize sub t 3 2 = T3 at *
    go_enter Tryz.func76, Tryz.ntmps76
    go_wp2_with fail
    refine (H1.out _).mono ?_
    rintro e w1 ⟨rfl, hb⟩
    replace hb := Lib.hid hb
    go_wp2_with fail
    go_quiet (first | (go_at_call_of 86 (Value.string (bs T0)); exact Calls.quiet_of_same ((H3.out _).mono (fun e w1 x => ⟨x.1, x.2.symm⟩))) | (go_at_call_of 86 (Value.string (bs T3)); exact Calls.quiet_of_same ((H4.out _).mono (fun e w1 x => ⟨x.1, x.2.symm⟩))))
    go_wp2
    go_ret2
    refine ⟨?_, dwn hb.out _⟩
    rw [E.out.1, E.out.2]; try rfl
set_option maxHeartbeats 3200000 in
set_option maxRecDepth 100000 in
theorem secs_8 (t : List UInt8) (h : frB t fL = true) (w : World) : Calls Tryz.prog 76 #[.string (bs t)] w fun e w' => e = .returned (.tuple #[.int .i64 (seV t), .int .i64 (seE t)]) ∧ Below w.heap.size w w' := by
  obtain ⟨k1, k2, b0, b3, b6⟩ := hms_8 h
  obtain ⟨hl, _, a0, a3, a6⟩ := (frL_iff t).1 h
  have hS := bs_size t
  rw [hl] at hS
  have X1 := formS_any t
  rw [fS_fL h] at X1
  have X2 := formL_any t
  rw [h] at X2
  have s2 := fun W => slice_upto t 2 (by omega) (B := 2) rfl W
  have s35 := fun W => slice_bs t 3 5 (by decide) (by omega) (A := 3) (B := 5) rfl rfl W
  have s6 := fun W => slice_from t 6 (by omega) (A := 6) rfl W
  rw [sub_a] at s2
  rw [sub_b t 3 2] at s35
  rw [sub_c t 6 2 hl] at s6
  have X3 := fun w => pDigits_p (sub t 0 2) a0 (by unfold sub; simp; omega) w
  have X4 := fun w => pDigits_p (sub t 3 2) a3 (by unfold sub; simp; omega) w
  have X5 := fun w => pDigits_p (sub t 6 2) a6 (by unfold sub; simp; omega) w
  have H1 := Lib.hid X1
  have H2 := Lib.hid X2
  have H3 := Lib.hid X3
  have H4 := Lib.hid X4
  have H5 := Lib.hid X5
  clear X1 X2 X3 X4 X5 a0 a3 a6 h
  have key : (dval (sub t 3 2) ≤ 59 ∧ dval (sub t 6 2) ≤ 59 ∧ Hid (seV t = 3600 * (dval (sub t 0 2) : Int) + 60 * (dval (sub t 3 2) : Int) + (dval (sub t 6 2) : Int) ∧ seE t = 0)) ∨ ((59 < dval (sub t 3 2) ∨ (dval (sub t 3 2) ≤ 59 ∧ 59 < dval (sub t 6 2))) ∧ Hid (seV t = 0 ∧ seE t = 2)) := by
    by_cases h59 : dval (sub t 3 2) ≤ 59
    · by_cases h60 : dval (sub t 6 2) ≤ 59
      · refine Or.inl ⟨h59, h60, Lib.hid ?_⟩
        have e := k1 h59 h60
        rw [← e]; exact se_ok (by omega)
      · exact Or.inr ⟨Or.inr ⟨h59, by omega⟩, Lib.hid (se_no (by have e := k2 (by omega); omega))⟩
    · exact Or.inr ⟨Or.inl (by omega), Lib.hid (se_no (by have e := k2 (by omega); omega))⟩
  clear k1 k2
  generalize dval (sub t 0 2) = x at *
  generalize dval (sub t 3 2) = y at *
  generalize dval (sub t 6 2) = z at *
  generalize sub t 0 2 = T0 at *
  generalize sub t 3 2 = T3 at *
  generalize sub t 6 2 = T6 at *
  rcases key with ⟨h1, h2, E⟩ | ⟨h1 | ⟨h1, h2⟩, E⟩
  · have q1 : decide ((59 : Int) < (y : Int)) = false := decide_eq_false (by omega)
    have q2 : decide ((59 : Int) < (z : Int)) = false := decide_eq_false (by omega)
    go_enter Tryz.func76, Tryz.ntmps76
    go_wp2_with fail
    refine (H1.out _).mono ?_
    rintro e w1 ⟨rfl, hb⟩
    replace hb := Lib.hid hb
    go_wp2_with fail
    refine (H2.out _).mono ?_
    rintro e w2 ⟨rfl, hb2⟩
    replace hb2 := Lib.hid (hb2.mono hb.out.size)
    go_wp2_with fail
    go_quiet (first | (go_at_call_of 86 (Value.string (bs T0)); exact Calls.quiet_of_same ((H3.out _).mono (fun e w1 x => ⟨x.1, x.2.symm⟩))) | (go_at_call_of 86 (Value.string (bs T3)); exact Calls.quiet_of_same ((H4.out _).mono (fun e w1 x => ⟨x.1, x.2.symm⟩))))
    go_wp2_with fail
    refine (H5.out _).mono ?_
    rintro e w3 ⟨rfl, rfl⟩
    go_wp2
    go_ret2
    refine ⟨?_, dwn (hb.out.trans hb2.out) _⟩
    rw [E.out.1, E.out.2]; try rfl
    first | rfl | go_num | (simp; omega)
  · have q1 : decide ((59 : Int) < (y : Int)) = true := decide_eq_true (by omega)
    go_enter Tryz.func76, Tryz.ntmps76
    go_wp2_with fail
    refine (H1.out _).mono ?_
    rintro e w1 ⟨rfl, hb⟩
    replace hb := Lib.hid hb
    go_wp2_with fail
    refine (H2.out _).mono ?_
    rintro e w2 ⟨rfl, hb2⟩
    replace hb2 := Lib.hid (hb2.mono hb.out.size)
    go_wp2_with fail
    go_quiet (first | (go_at_call_of 86 (Value.string (bs T0)); exact Calls.quiet_of_same ((H3.out _).mono (fun e w1 x => ⟨x.1, x.2.symm⟩))) | (go_at_call_of 86 (Value.string (bs T3)); exact Calls.quiet_of_same ((H4.out _).mono (fun e w1 x => ⟨x.1, x.2.symm⟩))))
    go_wp2_with fail
    refine (H5.out _).mono ?_
    rintro e w3 ⟨rfl, rfl⟩
    go_wp2
    go_ret2
    refine ⟨?_, dwn (hb.out.trans hb2.out) _⟩
    rw [E.out.1, E.out.2]; try rfl
  · have q1 : decide ((59 : Int) < (y : Int)) = false := decide_eq_false (by omega)
    have q2 : decide ((59 : Int) < (z : Int)) = true := decide_eq_true (by omega)
    go_enter Tryz.func76, Tryz.ntmps76
    go_wp2_with fail
    refine (H1.out _).mono ?_
    rintro e w1 ⟨rfl, hb⟩
    replace hb := Lib.hid hb
    go_wp2_with fail
    refine (H2.out _).mono ?_
    rintro e w2 ⟨rfl, hb2⟩
    replace hb2 := Lib.hid (hb2.mono hb.out.size)
    go_wp2_with fail
    go_quiet (first | (go_at_call_of 86 (Value.string (bs T0)); exact Calls.quiet_of_same ((H3.out _).mono (fun e w1 x => ⟨x.1, x.2.symm⟩))) | (go_at_call_of 86 (Value.string (bs T3)); exact Calls.quiet_of_same ((H4.out _).mono (fun e w1 x => ⟨x.1, x.2.symm⟩))))
    go_wp2_with fail
    refine (H5.out _).mono ?_
    rintro e w3 ⟨rfl, rfl⟩
    go_wp2
    go_ret2
    refine ⟨?_, dwn (hb.out.trans hb2.out) _⟩
    rw [E.out.1, E.out.2]; try rfl
set_option maxHeartbeats 3200000 in
set_option maxRecDepth 100000 in
theorem pSecs14_any (t : List UInt8) (w : World) : Calls Tryz.prog 76 #[.string (bs t)] w fun e w' => e = .returned (.tuple #[.int .i64 (seV t), .int .i64 (seE t)]) ∧ Below w.heap.size w w' := by
  by_cases h1 : frB t fS = true
  · exact secs_5 t h1 w
  by_cases h2 : frB t fL = true
  · exact secs_8 t h2 w
  have X1 := formS_any t
  have X2 := formL_any t
  rw [Bool.eq_false_iff.2 h1] at X1
  rw [Bool.eq_false_iff.2 h2] at X2
  have E : Hid (seV t = 0 ∧ seE t = 2) := Lib.hid (se_no (by rw [hms_none (Bool.eq_false_iff.2 h1) (Bool.eq_false_iff.2 h2)]; decide))
  have H1 := Lib.hid X1
  have H2 := Lib.hid X2
  clear X1 X2 h1 h2
  go_enter Tryz.func76, Tryz.ntmps76
  go_wp2_with fail
  
  refine (H1.out _).mono ?_
  rintro e V1 ⟨rfl, hb1⟩
  have B1 : Hid (Below w.heap.size w V1) := by first | exact Lib.hid ((Below.refl w.heap.size w).trans (hb1.mono (by first | assumption | (simp <;> omega) | (simp; done)))) | exact Lib.hid (((Below.refl w.heap.size w).alloc (Nat.le_refl _) _).trans (hb1.mono (by first | assumption | (simp <;> omega) | (simp; done)))) | exact Lib.hid ((((Below.refl w.heap.size w).alloc (Nat.le_refl _) _).alloc (by simp <;> omega) _).trans (hb1.mono (by first | assumption | (simp <;> omega) | (simp; done)))) | exact Lib.hid (((((Below.refl w.heap.size w).alloc (Nat.le_refl _) _).alloc (by simp <;> omega) _).alloc (by simp <;> omega) _).trans (hb1.mono (by first | assumption | (simp <;> omega) | (simp; done))))
  clear hb1
  go_simp
  go_wp2_with fail
  refine (H2.out _).mono ?_
  rintro e V2 ⟨rfl, hb2⟩
  have B2 : Hid (Below w.heap.size w V2) := by first | exact Lib.hid ((B1.out).trans (hb2.mono (by have := B1.out.size; first | assumption | (simp <;> omega) | (simp; done)))) | exact Lib.hid (((B1.out).alloc (B1.out.size) _).trans (hb2.mono (by have := B1.out.size; first | assumption | (simp <;> omega) | (simp; done)))) | exact Lib.hid ((((B1.out).alloc (B1.out.size) _).alloc (by have := B1.out.size; simp <;> omega) _).trans (hb2.mono (by have := B1.out.size; first | assumption | (simp <;> omega) | (simp; done)))) | exact Lib.hid (((((B1.out).alloc (B1.out.size) _).alloc (by have := B1.out.size; simp <;> omega) _).alloc (by have := B1.out.size; simp <;> omega) _).trans (hb2.mono (by have := B1.out.size; first | assumption | (simp <;> omega) | (simp; done))))
  clear hb2
  go_simp
  go_wp2
  go_ret2
  exact ⟨by rw [E.out.1, E.out.2]; try rfl, B2.out⟩
theorem tim_se (t : List UInt8) : (hmsV t < 0 → timE t = 2 ∧ timV t = 0) ∧ (¬ hmsV t < 0 → timE t = wiE (hmsV t) 0 86400 ∧ timV t = wiV (hmsV t) 0 86400) := by
  refine ⟨tim_form, fun h => ?_⟩
  by_cases h2 : 86400 < hmsV t
  · rw [(tim_range h h2).1, (tim_range h h2).2, (wi_no (Or.inr h2)).1, (wi_no (Or.inr h2)).2]; exact ⟨rfl, rfl⟩
  · rw [(tim_ok h h2).1, (tim_ok h h2).2, (wi_ok (by omega)).1, (wi_ok (by omega)).2]; exact ⟨rfl, rfl⟩
set_option maxHeartbeats 1600000 in
theorem pTime_any (L : List UInt8) (hL : L.length ≤ 100000) (w : World) : Calls Tryz.prog 99 #[.string (bs L)] w fun e w' => e = .returned (.tuple #[.int .i64 (timV L), .int .i64 (timE L)]) ∧ Below w.heap.size w w' := by
  have X1 := pSecs14_any L
  by_cases h : hmsV L < 0
  · have E := Lib.hid ((tim_se L).1 h)
    rw [(se_no h).1, (se_no h).2] at X1
    have H1 := Lib.hid X1
    clear X1 h
    go_enter Tryz.func99, Tryz.ntmps99
    go_wp2_with fail
    
    refine (H1.out _).mono ?_
    rintro e V1 ⟨rfl, hb1⟩
    have B1 : Hid (Below w.heap.size w V1) := by first | exact Lib.hid ((Below.refl w.heap.size w).trans (hb1.mono (by first | assumption | (simp <;> omega) | (simp; done)))) | exact Lib.hid (((Below.refl w.heap.size w).alloc (Nat.le_refl _) _).trans (hb1.mono (by first | assumption | (simp <;> omega) | (simp; done)))) | exact Lib.hid ((((Below.refl w.heap.size w).alloc (Nat.le_refl _) _).alloc (by simp <;> omega) _).trans (hb1.mono (by first | assumption | (simp <;> omega) | (simp; done)))) | exact Lib.hid (((((Below.refl w.heap.size w).alloc (Nat.le_refl _) _).alloc (by simp <;> omega) _).alloc (by simp <;> omega) _).trans (hb1.mono (by first | assumption | (simp <;> omega) | (simp; done))))
    clear hb1
    go_simp
    go_wp2
    go_ret2
    exact ⟨by rw [E.out.1, E.out.2]; try rfl, B1.out⟩
  · have E := Lib.hid ((tim_se L).2 h)
    rw [(se_ok h).1, (se_ok h).2] at X1
    have H1 := Lib.hid X1
    have H2 := Lib.hid (fun w => grow2 (pWithin_p (hmsV L) 0 86400 w))
    clear X1 h
    generalize wiE (hmsV L) 0 86400 = e1 at *
    generalize wiV (hmsV L) 0 86400 = e2 at *
    generalize hmsV L = x at *
    go_enter Tryz.func99, Tryz.ntmps99
    go_wp2_with fail
    
    refine (H1.out _).mono ?_
    rintro e V1 ⟨rfl, hb1⟩
    have B1 : Hid (Below w.heap.size w V1) := by first | exact Lib.hid ((Below.refl w.heap.size w).trans (hb1.mono (by first | assumption | (simp <;> omega) | (simp; done)))) | exact Lib.hid (((Below.refl w.heap.size w).alloc (Nat.le_refl _) _).trans (hb1.mono (by first | assumption | (simp <;> omega) | (simp; done)))) | exact Lib.hid ((((Below.refl w.heap.size w).alloc (Nat.le_refl _) _).alloc (by simp <;> omega) _).trans (hb1.mono (by first | assumption | (simp <;> omega) | (simp; done)))) | exact Lib.hid (((((Below.refl w.heap.size w).alloc (Nat.le_refl _) _).alloc (by simp <;> omega) _).alloc (by simp <;> omega) _).trans (hb1.mono (by first | assumption | (simp <;> omega) | (simp; done))))
    clear hb1
    go_simp
    go_wp2_with fail
    refine (H2.out _).mono ?_
    rintro e V2 ⟨rfl, hb2⟩
    have B2 : Hid (Below w.heap.size w V2) := by first | exact Lib.hid ((B1.out).trans (hb2.mono (by have := B1.out.size; first | assumption | (simp <;> omega) | (simp; done)))) | exact Lib.hid (((B1.out).alloc (B1.out.size) _).trans (hb2.mono (by have := B1.out.size; first | assumption | (simp <;> omega) | (simp; done)))) | exact Lib.hid ((((B1.out).alloc (B1.out.size) _).alloc (by have := B1.out.size; simp <;> omega) _).trans (hb2.mono (by have := B1.out.size; first | assumption | (simp <;> omega) | (simp; done)))) | exact Lib.hid (((((B1.out).alloc (B1.out.size) _).alloc (by have := B1.out.size; simp <;> omega) _).alloc (by have := B1.out.size; simp <;> omega) _).trans (hb2.mono (by have := B1.out.size; first | assumption | (simp <;> omega) | (simp; done))))
    clear hb2
    go_simp
    go_wp2
    go_ret2
    exact ⟨by rw [E.out.1, E.out.2]; try rfl, B2.out⟩
theorem pls_hd (L : List UInt8) : plsB L = true → hd0 L = 43 ∧ cpL L [43] = L.drop 1 := by
  intro h
  have h2 : L.take 1 = [43] := by unfold plsB at h; simpa using h
  refine ⟨?_, if_pos h2⟩
  match L with
  | [] => cases h2
  | c :: r => simp at h2; subst h2; rfl
theorem pls_no (L : List UInt8) : plsB L = false → hd0 L ≠ 43 ∧ cpL L [43] = L := by
  intro h
  have h2 : ¬ L.take 1 = [43] := by unfold plsB at h; simpa using h
  refine ⟨?_, if_neg h2⟩
  match L with
  | [] => decide
  | c :: r =>
    intro hc
    apply h2
    have : c.toNat = 43 := hc
    simp
    exact UInt8.toNat_inj.1 this
theorem neg_hd (L : List UInt8) : (negB L = true → hd0 L = 45) ∧ (negB L = false → hd0 L ≠ 45) := by
  match L with
  | [] => exact ⟨fun h => Bool.noConfusion (show false = true from h), fun _ => (by decide : hd0 [] ≠ 45)⟩
  | c :: r =>
    constructor
    · intro h
      unfold negB at h
      have h2 : c.toNat = 45 := by simpa using h
      exact h2
    · intro h hc
      have : c.toNat = 45 := hc
      unfold negB at h; simp [this] at h
theorem off_same {L : List UInt8} (h : plsB L = negB (cpL L [43])) : offE L = 2 ∧ offV L = 0 := by
  cases hp : plsB L
  · obtain ⟨h1, h2⟩ := pls_no L hp
    rw [hp, h2] at h
    exact off_form ⟨h1, (neg_hd L).2 h.symm⟩
  · obtain ⟨h1, h2⟩ := pls_hd L hp
    rw [hp, h2] at h
    exact off_odd (by omega) (Or.inl (by rw [hms_sign h.symm]; decide))
theorem off_apart {L : List UInt8} (h : plsB L ≠ negB (cpL L [43])) :
    bodyN (cpL L [43]) = L.drop 1 ∧ (hd0 L = 43 ∨ hd0 L = 45) ∧ negB (cpL L [43]) = decide (hd0 L = 45) := by
  cases hp : plsB L
  · obtain ⟨h1, h2⟩ := pls_no L hp
    rw [hp, h2] at h
    have hn : negB L = true := by
      cases q : negB L
      · rw [q] at h; exact absurd rfl h
      · rfl
    have h45 := (neg_hd L).1 hn
    rw [h2, hn]
    exact ⟨(body_neg hn).1, Or.inr h45, (decide_eq_true h45).symm⟩
  · obtain ⟨h1, h2⟩ := pls_hd L hp
    rw [hp, h2] at h
    have hn : negB (L.drop 1) = false := by
      cases q : negB (L.drop 1)
      · rfl
      · rw [q] at h; exact absurd rfl h
    rw [h2, hn]
    exact ⟨body_pos hn, Or.inl h1, (decide_eq_false (by omega)).symm⟩
theorem off_tu {L : List UInt8} (h : hd0 L = 43 ∨ hd0 L = 45) (hs : ¬ hmsV (L.drop 1) < 0) :
    (decide (hd0 L = 45) = true ∧ hmsV (L.drop 1) = 0 → offE L = 2 ∧ offV L = 0) ∧
    (¬ (decide (hd0 L = 45) = true ∧ hmsV (L.drop 1) = 0) → offE L = wiE (tuV (hmsV (L.drop 1)) (decide (hd0 L = 45))) (-64800) 64800 ∧ offV L = wiV (tuV (hmsV (L.drop 1)) (decide (hd0 L = 45))) (-64800) 64800) := by
  constructor
  · rintro ⟨h1, h2⟩
    exact off_odd (by omega) (Or.inr ⟨h2, by simpa using h1⟩)
  · intro hno
    have hF : ¬ (hmsV (L.drop 1) < 0 ∨ (hmsV (L.drop 1) = 0 ∧ hd0 L = 45)) := by
      rintro (h1 | ⟨h1, h2⟩)
      · exact hs h1
      · exact hno ⟨decide_eq_true h2, h1⟩
    have hV : tuV (hmsV (L.drop 1)) (decide (hd0 L = 45)) = if hd0 L = 45 then -hmsV (L.drop 1) else hmsV (L.drop 1) := by
      by_cases h45 : hd0 L = 45
      · rw [decide_eq_true h45, if_pos h45]; exact (tu_neg (fun h0 => hF (Or.inr ⟨h0, h45⟩))).1
      · rw [decide_eq_false h45, if_neg h45]; exact (tu_pos _).1
    rw [hV]
    by_cases h3 : 64800 < hmsV (L.drop 1)
    · have hr : (if hd0 L = 45 then -hmsV (L.drop 1) else hmsV (L.drop 1)) < -64800 ∨ 64800 < (if hd0 L = 45 then -hmsV (L.drop 1) else hmsV (L.drop 1)) := by split <;> omega
      rw [(off_range (by omega) hF h3).1, (off_range (by omega) hF h3).2, (wi_no hr).1, (wi_no hr).2]; exact ⟨rfl, rfl⟩
    · have hr : ¬ ((if hd0 L = 45 then -hmsV (L.drop 1) else hmsV (L.drop 1)) < -64800 ∨ 64800 < (if hd0 L = 45 then -hmsV (L.drop 1) else hmsV (L.drop 1))) := by split <;> omega
      rw [(off_ok (by omega) hF h3).1, (off_ok (by omega) hF h3).2, (wi_ok hr).1, (wi_ok hr).2]; exact ⟨rfl, rfl⟩
set_option maxHeartbeats 3200000 in
set_option maxRecDepth 100000 in
theorem pOffset_any (L : List UInt8) (hL : L.length ≤ 100000) (w : World) : Calls Tryz.prog 63 #[.string (bs L)] w fun e w' => e = .returned (.tuple #[.int .i64 (offV L), .int .i64 (offE L)]) ∧ Below w.heap.size w w' := by
  have X1 := fun w => grow2 (cutPls_p L w)
  have X2 := fun w => grow2 (cutNeg_p (cpL L [43]) w)
  by_cases hs : plsB L = negB (cpL L [43])
  · have E := Lib.hid (off_same hs)
    rw [hs] at X1
    have H1 := Lib.hid X1
    have H2 := Lib.hid X2
    clear X1 X2 hs
    generalize bodyN (cpL L [43]) = T at *
    generalize negB (cpL L [43]) = m at *
    generalize cpL L [43] = T1 at *
    cases m
    all_goals
      go_enter Tryz.func63, Tryz.ntmps63
      go_wp2_with fail
      
      refine (H1.out _).mono ?_
      rintro e V1 ⟨rfl, hb1⟩
      have B1 : Hid (Below w.heap.size w V1) := by first | exact Lib.hid ((Below.refl w.heap.size w).trans (hb1.mono (by first | assumption | (simp <;> omega) | (simp; done)))) | exact Lib.hid (((Below.refl w.heap.size w).alloc (Nat.le_refl _) _).trans (hb1.mono (by first | assumption | (simp <;> omega) | (simp; done)))) | exact Lib.hid ((((Below.refl w.heap.size w).alloc (Nat.le_refl _) _).alloc (by simp <;> omega) _).trans (hb1.mono (by first | assumption | (simp <;> omega) | (simp; done)))) | exact Lib.hid (((((Below.refl w.heap.size w).alloc (Nat.le_refl _) _).alloc (by simp <;> omega) _).alloc (by simp <;> omega) _).trans (hb1.mono (by first | assumption | (simp <;> omega) | (simp; done))))
      clear hb1
      go_simp
      go_wp2_with fail
      refine (H2.out _).mono ?_
      rintro e V2 ⟨rfl, hb2⟩
      have B2 : Hid (Below w.heap.size w V2) := by first | exact Lib.hid ((B1.out).trans (hb2.mono (by have := B1.out.size; first | assumption | (simp <;> omega) | (simp; done)))) | exact Lib.hid (((B1.out).alloc (B1.out.size) _).trans (hb2.mono (by have := B1.out.size; first | assumption | (simp <;> omega) | (simp; done)))) | exact Lib.hid ((((B1.out).alloc (B1.out.size) _).alloc (by have := B1.out.size; simp <;> omega) _).trans (hb2.mono (by have := B1.out.size; first | assumption | (simp <;> omega) | (simp; done)))) | exact Lib.hid (((((B1.out).alloc (B1.out.size) _).alloc (by have := B1.out.size; simp <;> omega) _).alloc (by have := B1.out.size; simp <;> omega) _).trans (hb2.mono (by have := B1.out.size; first | assumption | (simp <;> omega) | (simp; done))))
      clear hb2
      go_simp
      go_wp2
      go_ret2
      exact ⟨by rw [E.out.1, E.out.2]; try rfl, B2.out⟩
  · obtain ⟨hb, hh, hn⟩ := off_apart hs
    have hq : (plsB L == negB (cpL L [43])) = false := by rw [beq_eq_false_iff_ne]; exact hs
    rw [hb, hn] at X2
    rw [hn] at hq
    have X3 := pSecs14_any (L.drop 1)
    have bd := hms_bd (L.drop 1)
    by_cases h0 : hmsV (L.drop 1) < 0
    · have E := Lib.hid (off_odd (L := L) (by omega) (Or.inl h0))
      rw [(se_no h0).1, (se_no h0).2] at X3
      have H1 := Lib.hid X1
      have H2 := Lib.hid X2
      have H3 := Lib.hid X3
      clear X1 X2 X3 hs hh hn hb bd h0
      generalize decide (hd0 L = 45) = m at *
      generalize plsB L = p at *
      generalize L.drop 1 = T at *
      generalize cpL L [43] = T1 at *
      go_enter Tryz.func63, Tryz.ntmps63
      go_wp2_with fail
      
      refine (H1.out _).mono ?_
      rintro e V1 ⟨rfl, hb1⟩
      have B1 : Hid (Below w.heap.size w V1) := by first | exact Lib.hid ((Below.refl w.heap.size w).trans (hb1.mono (by first | assumption | (simp <;> omega) | (simp; done)))) | exact Lib.hid (((Below.refl w.heap.size w).alloc (Nat.le_refl _) _).trans (hb1.mono (by first | assumption | (simp <;> omega) | (simp; done)))) | exact Lib.hid ((((Below.refl w.heap.size w).alloc (Nat.le_refl _) _).alloc (by simp <;> omega) _).trans (hb1.mono (by first | assumption | (simp <;> omega) | (simp; done)))) | exact Lib.hid (((((Below.refl w.heap.size w).alloc (Nat.le_refl _) _).alloc (by simp <;> omega) _).alloc (by simp <;> omega) _).trans (hb1.mono (by first | assumption | (simp <;> omega) | (simp; done))))
      clear hb1
      go_simp
      go_wp2_with fail
      refine (H2.out _).mono ?_
      rintro e V2 ⟨rfl, hb2⟩
      have B2 : Hid (Below w.heap.size w V2) := by first | exact Lib.hid ((B1.out).trans (hb2.mono (by have := B1.out.size; first | assumption | (simp <;> omega) | (simp; done)))) | exact Lib.hid (((B1.out).alloc (B1.out.size) _).trans (hb2.mono (by have := B1.out.size; first | assumption | (simp <;> omega) | (simp; done)))) | exact Lib.hid ((((B1.out).alloc (B1.out.size) _).alloc (by have := B1.out.size; simp <;> omega) _).trans (hb2.mono (by have := B1.out.size; first | assumption | (simp <;> omega) | (simp; done)))) | exact Lib.hid (((((B1.out).alloc (B1.out.size) _).alloc (by have := B1.out.size; simp <;> omega) _).alloc (by have := B1.out.size; simp <;> omega) _).trans (hb2.mono (by have := B1.out.size; first | assumption | (simp <;> omega) | (simp; done))))
      clear hb2
      go_simp
      go_wp2_with fail
      refine (H3.out _).mono ?_
      rintro e V3 ⟨rfl, hb3⟩
      have B3 : Hid (Below w.heap.size w V3) := by first | exact Lib.hid ((B2.out).trans (hb3.mono (by have := B2.out.size; first | assumption | (simp <;> omega) | (simp; done)))) | exact Lib.hid (((B2.out).alloc (B2.out.size) _).trans (hb3.mono (by have := B2.out.size; first | assumption | (simp <;> omega) | (simp; done)))) | exact Lib.hid ((((B2.out).alloc (B2.out.size) _).alloc (by have := B2.out.size; simp <;> omega) _).trans (hb3.mono (by have := B2.out.size; first | assumption | (simp <;> omega) | (simp; done)))) | exact Lib.hid (((((B2.out).alloc (B2.out.size) _).alloc (by have := B2.out.size; simp <;> omega) _).alloc (by have := B2.out.size; simp <;> omega) _).trans (hb3.mono (by have := B2.out.size; first | assumption | (simp <;> omega) | (simp; done))))
      clear hb3
      go_simp
      go_wp2
      go_ret2
      exact ⟨by rw [E.out.1, E.out.2]; try rfl, B3.out⟩
    · have F := off_tu hh h0
      rw [(se_ok h0).1, (se_ok h0).2] at X3
      have X4 := fun w => grow2 (pTurned_p (hmsV (L.drop 1)) (decide (hd0 L = 45)) (by omega) (by omega) w)
      by_cases hz : decide (hd0 L = 45) = true ∧ hmsV (L.drop 1) = 0
      · have E := Lib.hid (F.1 hz)
        obtain ⟨hz1, hz2⟩ := hz
        rw [hz1, hz2, tu_zero.1, tu_zero.2] at X4
        rw [hz2] at X3
        rw [hz1] at X2 hq
        have H1 := Lib.hid X1
        have H2 := Lib.hid X2
        have H3 := Lib.hid X3
        have H4 := Lib.hid X4
        clear X1 X2 X3 X4 F hs hh hn hb bd h0 hz1 hz2
        generalize plsB L = p at *
        generalize L.drop 1 = T at *
        generalize cpL L [43] = T1 at *
        go_enter Tryz.func63, Tryz.ntmps63
        go_wp2_with fail
        
        refine (H1.out _).mono ?_
        rintro e V1 ⟨rfl, hb1⟩
        have B1 : Hid (Below w.heap.size w V1) := by first | exact Lib.hid ((Below.refl w.heap.size w).trans (hb1.mono (by first | assumption | (simp <;> omega) | (simp; done)))) | exact Lib.hid (((Below.refl w.heap.size w).alloc (Nat.le_refl _) _).trans (hb1.mono (by first | assumption | (simp <;> omega) | (simp; done)))) | exact Lib.hid ((((Below.refl w.heap.size w).alloc (Nat.le_refl _) _).alloc (by simp <;> omega) _).trans (hb1.mono (by first | assumption | (simp <;> omega) | (simp; done)))) | exact Lib.hid (((((Below.refl w.heap.size w).alloc (Nat.le_refl _) _).alloc (by simp <;> omega) _).alloc (by simp <;> omega) _).trans (hb1.mono (by first | assumption | (simp <;> omega) | (simp; done))))
        clear hb1
        go_simp
        go_wp2_with fail
        refine (H2.out _).mono ?_
        rintro e V2 ⟨rfl, hb2⟩
        have B2 : Hid (Below w.heap.size w V2) := by first | exact Lib.hid ((B1.out).trans (hb2.mono (by have := B1.out.size; first | assumption | (simp <;> omega) | (simp; done)))) | exact Lib.hid (((B1.out).alloc (B1.out.size) _).trans (hb2.mono (by have := B1.out.size; first | assumption | (simp <;> omega) | (simp; done)))) | exact Lib.hid ((((B1.out).alloc (B1.out.size) _).alloc (by have := B1.out.size; simp <;> omega) _).trans (hb2.mono (by have := B1.out.size; first | assumption | (simp <;> omega) | (simp; done)))) | exact Lib.hid (((((B1.out).alloc (B1.out.size) _).alloc (by have := B1.out.size; simp <;> omega) _).alloc (by have := B1.out.size; simp <;> omega) _).trans (hb2.mono (by have := B1.out.size; first | assumption | (simp <;> omega) | (simp; done))))
        clear hb2
        go_simp
        go_wp2_with fail
        refine (H3.out _).mono ?_
        rintro e V3 ⟨rfl, hb3⟩
        have B3 : Hid (Below w.heap.size w V3) := by first | exact Lib.hid ((B2.out).trans (hb3.mono (by have := B2.out.size; first | assumption | (simp <;> omega) | (simp; done)))) | exact Lib.hid (((B2.out).alloc (B2.out.size) _).trans (hb3.mono (by have := B2.out.size; first | assumption | (simp <;> omega) | (simp; done)))) | exact Lib.hid ((((B2.out).alloc (B2.out.size) _).alloc (by have := B2.out.size; simp <;> omega) _).trans (hb3.mono (by have := B2.out.size; first | assumption | (simp <;> omega) | (simp; done)))) | exact Lib.hid (((((B2.out).alloc (B2.out.size) _).alloc (by have := B2.out.size; simp <;> omega) _).alloc (by have := B2.out.size; simp <;> omega) _).trans (hb3.mono (by have := B2.out.size; first | assumption | (simp <;> omega) | (simp; done))))
        clear hb3
        go_simp
        go_wp2_with fail
        refine (H4.out _).mono ?_
        rintro e V4 ⟨rfl, hb4⟩
        have B4 : Hid (Below w.heap.size w V4) := by first | exact Lib.hid ((B3.out).trans (hb4.mono (by have := B3.out.size; first | assumption | (simp <;> omega) | (simp; done)))) | exact Lib.hid (((B3.out).alloc (B3.out.size) _).trans (hb4.mono (by have := B3.out.size; first | assumption | (simp <;> omega) | (simp; done)))) | exact Lib.hid ((((B3.out).alloc (B3.out.size) _).alloc (by have := B3.out.size; simp <;> omega) _).trans (hb4.mono (by have := B3.out.size; first | assumption | (simp <;> omega) | (simp; done)))) | exact Lib.hid (((((B3.out).alloc (B3.out.size) _).alloc (by have := B3.out.size; simp <;> omega) _).alloc (by have := B3.out.size; simp <;> omega) _).trans (hb4.mono (by have := B3.out.size; first | assumption | (simp <;> omega) | (simp; done))))
        clear hb4
        go_simp
        go_wp2
        go_ret2
        exact ⟨by rw [E.out.1, E.out.2]; try rfl, B4.out⟩
      · have E := Lib.hid (F.2 hz)
        have ht : tuE (hmsV (L.drop 1)) (decide (hd0 L = 45)) = 0 := by unfold tuE; exact if_neg hz
        rw [ht] at X4
        have H1 := Lib.hid X1
        have H2 := Lib.hid X2
        have H3 := Lib.hid X3
        have H4 := Lib.hid X4
        have H5 := Lib.hid (fun w => grow2 (pWithin_p (tuV (hmsV (L.drop 1)) (decide (hd0 L = 45))) (-64800) 64800 w))
        clear X1 X2 X3 X4 F hs hh hn hb bd h0 hz ht
        generalize tuV (hmsV (L.drop 1)) (decide (hd0 L = 45)) = v at *
        generalize wiE v (-64800) 64800 = we at *
        generalize wiV v (-64800) 64800 = wv at *
        generalize hmsV (L.drop 1) = x at *
        generalize decide (hd0 L = 45) = m at *
        generalize plsB L = p at *
        generalize L.drop 1 = T at *
        generalize cpL L [43] = T1 at *
        go_enter Tryz.func63, Tryz.ntmps63
        go_wp2_with fail
        
        refine (H1.out _).mono ?_
        rintro e V1 ⟨rfl, hb1⟩
        have B1 : Hid (Below w.heap.size w V1) := by first | exact Lib.hid ((Below.refl w.heap.size w).trans (hb1.mono (by first | assumption | (simp <;> omega) | (simp; done)))) | exact Lib.hid (((Below.refl w.heap.size w).alloc (Nat.le_refl _) _).trans (hb1.mono (by first | assumption | (simp <;> omega) | (simp; done)))) | exact Lib.hid ((((Below.refl w.heap.size w).alloc (Nat.le_refl _) _).alloc (by simp <;> omega) _).trans (hb1.mono (by first | assumption | (simp <;> omega) | (simp; done)))) | exact Lib.hid (((((Below.refl w.heap.size w).alloc (Nat.le_refl _) _).alloc (by simp <;> omega) _).alloc (by simp <;> omega) _).trans (hb1.mono (by first | assumption | (simp <;> omega) | (simp; done))))
        clear hb1
        go_simp
        go_wp2_with fail
        refine (H2.out _).mono ?_
        rintro e V2 ⟨rfl, hb2⟩
        have B2 : Hid (Below w.heap.size w V2) := by first | exact Lib.hid ((B1.out).trans (hb2.mono (by have := B1.out.size; first | assumption | (simp <;> omega) | (simp; done)))) | exact Lib.hid (((B1.out).alloc (B1.out.size) _).trans (hb2.mono (by have := B1.out.size; first | assumption | (simp <;> omega) | (simp; done)))) | exact Lib.hid ((((B1.out).alloc (B1.out.size) _).alloc (by have := B1.out.size; simp <;> omega) _).trans (hb2.mono (by have := B1.out.size; first | assumption | (simp <;> omega) | (simp; done)))) | exact Lib.hid (((((B1.out).alloc (B1.out.size) _).alloc (by have := B1.out.size; simp <;> omega) _).alloc (by have := B1.out.size; simp <;> omega) _).trans (hb2.mono (by have := B1.out.size; first | assumption | (simp <;> omega) | (simp; done))))
        clear hb2
        go_simp
        go_wp2_with fail
        refine (H3.out _).mono ?_
        rintro e V3 ⟨rfl, hb3⟩
        have B3 : Hid (Below w.heap.size w V3) := by first | exact Lib.hid ((B2.out).trans (hb3.mono (by have := B2.out.size; first | assumption | (simp <;> omega) | (simp; done)))) | exact Lib.hid (((B2.out).alloc (B2.out.size) _).trans (hb3.mono (by have := B2.out.size; first | assumption | (simp <;> omega) | (simp; done)))) | exact Lib.hid ((((B2.out).alloc (B2.out.size) _).alloc (by have := B2.out.size; simp <;> omega) _).trans (hb3.mono (by have := B2.out.size; first | assumption | (simp <;> omega) | (simp; done)))) | exact Lib.hid (((((B2.out).alloc (B2.out.size) _).alloc (by have := B2.out.size; simp <;> omega) _).alloc (by have := B2.out.size; simp <;> omega) _).trans (hb3.mono (by have := B2.out.size; first | assumption | (simp <;> omega) | (simp; done))))
        clear hb3
        go_simp
        go_wp2_with fail
        refine (H4.out _).mono ?_
        rintro e V4 ⟨rfl, hb4⟩
        have B4 : Hid (Below w.heap.size w V4) := by first | exact Lib.hid ((B3.out).trans (hb4.mono (by have := B3.out.size; first | assumption | (simp <;> omega) | (simp; done)))) | exact Lib.hid (((B3.out).alloc (B3.out.size) _).trans (hb4.mono (by have := B3.out.size; first | assumption | (simp <;> omega) | (simp; done)))) | exact Lib.hid ((((B3.out).alloc (B3.out.size) _).alloc (by have := B3.out.size; simp <;> omega) _).trans (hb4.mono (by have := B3.out.size; first | assumption | (simp <;> omega) | (simp; done)))) | exact Lib.hid (((((B3.out).alloc (B3.out.size) _).alloc (by have := B3.out.size; simp <;> omega) _).alloc (by have := B3.out.size; simp <;> omega) _).trans (hb4.mono (by have := B3.out.size; first | assumption | (simp <;> omega) | (simp; done))))
        clear hb4
        go_simp
        go_wp2_with fail
        refine (H5.out _).mono ?_
        rintro e V5 ⟨rfl, hb5⟩
        have B5 : Hid (Below w.heap.size w V5) := by first | exact Lib.hid ((B4.out).trans (hb5.mono (by have := B4.out.size; first | assumption | (simp <;> omega) | (simp; done)))) | exact Lib.hid (((B4.out).alloc (B4.out.size) _).trans (hb5.mono (by have := B4.out.size; first | assumption | (simp <;> omega) | (simp; done)))) | exact Lib.hid ((((B4.out).alloc (B4.out.size) _).alloc (by have := B4.out.size; simp <;> omega) _).trans (hb5.mono (by have := B4.out.size; first | assumption | (simp <;> omega) | (simp; done)))) | exact Lib.hid (((((B4.out).alloc (B4.out.size) _).alloc (by have := B4.out.size; simp <;> omega) _).alloc (by have := B4.out.size; simp <;> omega) _).trans (hb5.mono (by have := B4.out.size; first | assumption | (simp <;> omega) | (simp; done))))
        clear hb5
        go_simp
        go_wp2
        go_ret2
        exact ⟨by rw [E.out.1, E.out.2]; try rfl, B5.out⟩
set_option maxHeartbeats 3200000 in
set_option maxRecDepth 100000 in
theorem showOff_ns (a : Int) (h0 : 0 < a) (h1 : a ≤ 64800) (hs : a % 60 ≠ 0) (w : World) : Calls Tryz.prog 25 #[.int .i64 (-a)] w fun e w' => e = .returned (.tuple #[.string (bs (offL (-a))), .int .i64 (offX (-a))]) ∧ Below w.heap.size w w' := by
  have hn : ¬ ((-a) < -64800 ∨ 64800 < (-a)) := by omega
  have X0 := fun w => grow2 (pWithin_p (-a) (-64800) 64800 w)
  rw [(wi_ok hn).1, (wi_ok hn).2] at X0
  have H0 := Lib.hid X0
  clear X0
  have H1 := Lib.hid (pPair_any (a / 3600) (by omega) (by omega))
  have H2 := Lib.hid (pPair_any (a / 60 % 60) (by omega) (by omega))
  have H3 := Lib.hid (pPair_any (a % 60) (by omega) (by omega))
  have E : Hid (offL (-a) = 45 :: timL a ∧ offX (-a) = 0) := Lib.hid ⟨by unfold offL; rw [if_neg hn]; rw [if_pos (show -a < 0 by omega), Int.neg_neg], by unfold offX; exact if_neg hn⟩
  have a1 : (⟨#[45]⟩ : ByteArray) ++ bs (twoL (a / 3600)) = bs (45 :: twoL (a / 3600)) := bs_minus _
  have a2 : bs (45 :: twoL (a / 3600)) ++ (⟨#[58]⟩ : ByteArray) = bs (45 :: twoL (a / 3600) ++ [58]) := by rw [bs_colon, append_bs]
  have a3 := append_bs (45 :: twoL (a / 3600) ++ [58]) (twoL (a / 60 % 60))
  have z1 : (bs (twoL (a / 3600))).size = 2 := bs_size _
  have z2 : (bs (twoL (a / 60 % 60))).size = 2 := bs_size _
  have z3 : (bs (45 :: twoL (a / 3600))).size = 3 := bs_size _
  have z4 : (bs (45 :: twoL (a / 3600) ++ [58])).size = 4 := bs_size _
  have z5 : (bs (45 :: twoL (a / 3600) ++ [58] ++ twoL (a / 60 % 60))).size = 6 := bs_size _
  have a4 : (⟨#[58]⟩ : ByteArray) ++ bs (twoL (a % 60)) = bs ([58] ++ twoL (a % 60)) := by rw [bs_colon, append_bs]
  have a5 := append_bs (45 :: twoL (a / 3600) ++ [58] ++ twoL (a / 60 % 60)) ([58] ++ twoL (a % 60))
  have z6 : (bs (twoL (a % 60))).size = 2 := bs_size _
  have z7 : (bs ([58] ++ twoL (a % 60))).size = 3 := bs_size _
  have E2 : Hid (45 :: timL a = 45 :: twoL (a / 3600) ++ [58] ++ twoL (a / 60 % 60) ++ ([58] ++ twoL (a % 60))) := Lib.hid (by unfold timL; rw [if_neg hs]; simp)
  generalize 45 :: twoL (a / 3600) ++ [58] ++ twoL (a / 60 % 60) ++ ([58] ++ twoL (a % 60)) = S5 at *
  generalize [58] ++ twoL (a % 60) = S4 at *
  generalize 45 :: twoL (a / 3600) ++ [58] ++ twoL (a / 60 % 60) = S3 at *
  generalize 45 :: twoL (a / 3600) ++ [58] = S2 at *
  generalize 45 :: twoL (a / 3600) = S1 at *
  generalize twoL (a / 3600) = A1 at *
  generalize twoL (a / 60 % 60) = A2 at *
  generalize twoL (a % 60) = A3 at *
  generalize timL a = TT at *
  have e1 : a.tdiv 3600 = a / 3600 := Int.tdiv_eq_ediv_of_nonneg (by omega)
  have e2 : a.tdiv 60 = a / 60 := Int.tdiv_eq_ediv_of_nonneg (by omega)
  have e3 : (a / 60).tmod 60 = a / 60 % 60 := Int.tmod_eq_emod_of_nonneg (by omega)
  have e4 : a.tmod 60 = a % 60 := Int.tmod_eq_emod_of_nonneg (by omega)
  have q0 : decide ((-a) < 0) = true := decide_eq_true (by omega)
  have bh : 0 ≤ a / 3600 ∧ a / 3600 ≤ 18 := by omega
  have bm : 0 ≤ a / 60 % 60 ∧ a / 60 % 60 ≤ 59 := by omega
  have bx : 0 ≤ a % 60 ∧ a % 60 ≤ 59 := by omega
  have bq : 0 ≤ a / 60 ∧ a / 60 ≤ 1080 := by omega
  replace hn := Lib.hid hn
  generalize hm : a / 60 % 60 = m at *
  generalize hh : a / 3600 = h at *
  generalize hx : a % 60 = x at *
  have q2 : (x == 0) = false := beq_eq_false_iff_ne.2 hs
  replace hm := Lib.hid hm
  replace hh := Lib.hid hh
  replace hs := Lib.hid hs
  go_enter Tryz.func25, Tryz.ntmps25
  go_wp2_with fail
  
  refine (H0.out _).mono ?_
  rintro e V1 ⟨rfl, hb1⟩
  have B1 : Hid (Below w.heap.size w V1) := by first | exact Lib.hid ((Below.refl w.heap.size w).trans (hb1.mono (by first | assumption | (simp <;> omega) | (simp; done)))) | exact Lib.hid (((Below.refl w.heap.size w).alloc (Nat.le_refl _) _).trans (hb1.mono (by first | assumption | (simp <;> omega) | (simp; done)))) | exact Lib.hid ((((Below.refl w.heap.size w).alloc (Nat.le_refl _) _).alloc (by simp <;> omega) _).trans (hb1.mono (by first | assumption | (simp <;> omega) | (simp; done)))) | exact Lib.hid (((((Below.refl w.heap.size w).alloc (Nat.le_refl _) _).alloc (by simp <;> omega) _).alloc (by simp <;> omega) _).trans (hb1.mono (by first | assumption | (simp <;> omega) | (simp; done))))
  clear hb1
  go_simp
  go_wp2_with fail
  refine (H1.out _).mono ?_
  rintro e V2 ⟨rfl, hb2⟩
  have B2 : Hid (Below w.heap.size w V2) := by first | exact Lib.hid ((B1.out).trans (hb2.mono (by have := B1.out.size; first | assumption | (simp <;> omega) | (simp; done)))) | exact Lib.hid (((B1.out).alloc (B1.out.size) _).trans (hb2.mono (by have := B1.out.size; first | assumption | (simp <;> omega) | (simp; done)))) | exact Lib.hid ((((B1.out).alloc (B1.out.size) _).alloc (by have := B1.out.size; simp <;> omega) _).trans (hb2.mono (by have := B1.out.size; first | assumption | (simp <;> omega) | (simp; done)))) | exact Lib.hid (((((B1.out).alloc (B1.out.size) _).alloc (by have := B1.out.size; simp <;> omega) _).alloc (by have := B1.out.size; simp <;> omega) _).trans (hb2.mono (by have := B1.out.size; first | assumption | (simp <;> omega) | (simp; done))))
  clear hb2
  go_simp
  go_wp2_with fail
  refine (H2.out _).mono ?_
  rintro e V3 ⟨rfl, hb3⟩
  have B3 : Hid (Below w.heap.size w V3) := by first | exact Lib.hid ((B2.out).trans (hb3.mono (by have := B2.out.size; first | assumption | (simp <;> omega) | (simp; done)))) | exact Lib.hid (((B2.out).alloc (B2.out.size) _).trans (hb3.mono (by have := B2.out.size; first | assumption | (simp <;> omega) | (simp; done)))) | exact Lib.hid ((((B2.out).alloc (B2.out.size) _).alloc (by have := B2.out.size; simp <;> omega) _).trans (hb3.mono (by have := B2.out.size; first | assumption | (simp <;> omega) | (simp; done)))) | exact Lib.hid (((((B2.out).alloc (B2.out.size) _).alloc (by have := B2.out.size; simp <;> omega) _).alloc (by have := B2.out.size; simp <;> omega) _).trans (hb3.mono (by have := B2.out.size; first | assumption | (simp <;> omega) | (simp; done))))
  clear hb3
  go_simp
  go_wp2_with fail
  refine (H3.out _).mono ?_
  rintro e V4 ⟨rfl, hb4⟩
  have B4 : Hid (Below w.heap.size w V4) := by first | exact Lib.hid ((B3.out).trans (hb4.mono (by have := B3.out.size; first | assumption | (simp <;> omega) | (simp; done)))) | exact Lib.hid (((B3.out).alloc (B3.out.size) _).trans (hb4.mono (by have := B3.out.size; first | assumption | (simp <;> omega) | (simp; done)))) | exact Lib.hid ((((B3.out).alloc (B3.out.size) _).alloc (by have := B3.out.size; simp <;> omega) _).trans (hb4.mono (by have := B3.out.size; first | assumption | (simp <;> omega) | (simp; done)))) | exact Lib.hid (((((B3.out).alloc (B3.out.size) _).alloc (by have := B3.out.size; simp <;> omega) _).alloc (by have := B3.out.size; simp <;> omega) _).trans (hb4.mono (by have := B3.out.size; first | assumption | (simp <;> omega) | (simp; done))))
  clear hb4
  go_simp
  go_wp2
  go_ret2
  exact ⟨by rw [E.out.1, E.out.2, E2.out]; try rfl, B4.out⟩
set_option maxHeartbeats 3200000 in
set_option maxRecDepth 100000 in
theorem showOff_nz (a : Int) (h0 : 0 < a) (h1 : a ≤ 64800) (hs : a % 60 = 0) (w : World) : Calls Tryz.prog 25 #[.int .i64 (-a)] w fun e w' => e = .returned (.tuple #[.string (bs (offL (-a))), .int .i64 (offX (-a))]) ∧ Below w.heap.size w w' := by
  have hn : ¬ ((-a) < -64800 ∨ 64800 < (-a)) := by omega
  have X0 := fun w => grow2 (pWithin_p (-a) (-64800) 64800 w)
  rw [(wi_ok hn).1, (wi_ok hn).2] at X0
  have H0 := Lib.hid X0
  clear X0
  have H1 := Lib.hid (pPair_any (a / 3600) (by omega) (by omega))
  have H2 := Lib.hid (pPair_any (a / 60 % 60) (by omega) (by omega))
  have E : Hid (offL (-a) = 45 :: timL a ∧ offX (-a) = 0) := Lib.hid ⟨by unfold offL; rw [if_neg hn]; rw [if_pos (show -a < 0 by omega), Int.neg_neg], by unfold offX; exact if_neg hn⟩
  have a1 : (⟨#[45]⟩ : ByteArray) ++ bs (twoL (a / 3600)) = bs (45 :: twoL (a / 3600)) := bs_minus _
  have a2 : bs (45 :: twoL (a / 3600)) ++ (⟨#[58]⟩ : ByteArray) = bs (45 :: twoL (a / 3600) ++ [58]) := by rw [bs_colon, append_bs]
  have a3 := append_bs (45 :: twoL (a / 3600) ++ [58]) (twoL (a / 60 % 60))
  have z1 : (bs (twoL (a / 3600))).size = 2 := bs_size _
  have z2 : (bs (twoL (a / 60 % 60))).size = 2 := bs_size _
  have z3 : (bs (45 :: twoL (a / 3600))).size = 3 := bs_size _
  have z4 : (bs (45 :: twoL (a / 3600) ++ [58])).size = 4 := bs_size _
  have z5 : (bs (45 :: twoL (a / 3600) ++ [58] ++ twoL (a / 60 % 60))).size = 6 := bs_size _
  have E2 : Hid (45 :: timL a = 45 :: twoL (a / 3600) ++ [58] ++ twoL (a / 60 % 60)) := Lib.hid (by unfold timL; rw [if_pos hs]; simp)
  generalize 45 :: twoL (a / 3600) ++ [58] ++ twoL (a / 60 % 60) = S3 at *
  generalize 45 :: twoL (a / 3600) ++ [58] = S2 at *
  generalize 45 :: twoL (a / 3600) = S1 at *
  generalize twoL (a / 3600) = A1 at *
  generalize twoL (a / 60 % 60) = A2 at *
  generalize timL a = TT at *
  have e1 : a.tdiv 3600 = a / 3600 := Int.tdiv_eq_ediv_of_nonneg (by omega)
  have e2 : a.tdiv 60 = a / 60 := Int.tdiv_eq_ediv_of_nonneg (by omega)
  have e3 : (a / 60).tmod 60 = a / 60 % 60 := Int.tmod_eq_emod_of_nonneg (by omega)
  have e4 : a.tmod 60 = a % 60 := Int.tmod_eq_emod_of_nonneg (by omega)
  have q0 : decide ((-a) < 0) = true := decide_eq_true (by omega)
  have bh : 0 ≤ a / 3600 ∧ a / 3600 ≤ 18 := by omega
  have bm : 0 ≤ a / 60 % 60 ∧ a / 60 % 60 ≤ 59 := by omega
  have bx : 0 ≤ a % 60 ∧ a % 60 ≤ 59 := by omega
  have bq : 0 ≤ a / 60 ∧ a / 60 ≤ 1080 := by omega
  replace hn := Lib.hid hn
  generalize hm : a / 60 % 60 = m at *
  generalize hh : a / 3600 = h at *
  generalize hx : a % 60 = x at *
  subst hs
  replace hm := Lib.hid hm
  replace hh := Lib.hid hh
  go_enter Tryz.func25, Tryz.ntmps25
  go_wp2_with fail
  
  refine (H0.out _).mono ?_
  rintro e V1 ⟨rfl, hb1⟩
  have B1 : Hid (Below w.heap.size w V1) := by first | exact Lib.hid ((Below.refl w.heap.size w).trans (hb1.mono (by first | assumption | (simp <;> omega) | (simp; done)))) | exact Lib.hid (((Below.refl w.heap.size w).alloc (Nat.le_refl _) _).trans (hb1.mono (by first | assumption | (simp <;> omega) | (simp; done)))) | exact Lib.hid ((((Below.refl w.heap.size w).alloc (Nat.le_refl _) _).alloc (by simp <;> omega) _).trans (hb1.mono (by first | assumption | (simp <;> omega) | (simp; done)))) | exact Lib.hid (((((Below.refl w.heap.size w).alloc (Nat.le_refl _) _).alloc (by simp <;> omega) _).alloc (by simp <;> omega) _).trans (hb1.mono (by first | assumption | (simp <;> omega) | (simp; done))))
  clear hb1
  go_simp
  go_wp2_with fail
  refine (H1.out _).mono ?_
  rintro e V2 ⟨rfl, hb2⟩
  have B2 : Hid (Below w.heap.size w V2) := by first | exact Lib.hid ((B1.out).trans (hb2.mono (by have := B1.out.size; first | assumption | (simp <;> omega) | (simp; done)))) | exact Lib.hid (((B1.out).alloc (B1.out.size) _).trans (hb2.mono (by have := B1.out.size; first | assumption | (simp <;> omega) | (simp; done)))) | exact Lib.hid ((((B1.out).alloc (B1.out.size) _).alloc (by have := B1.out.size; simp <;> omega) _).trans (hb2.mono (by have := B1.out.size; first | assumption | (simp <;> omega) | (simp; done)))) | exact Lib.hid (((((B1.out).alloc (B1.out.size) _).alloc (by have := B1.out.size; simp <;> omega) _).alloc (by have := B1.out.size; simp <;> omega) _).trans (hb2.mono (by have := B1.out.size; first | assumption | (simp <;> omega) | (simp; done))))
  clear hb2
  go_simp
  go_wp2_with fail
  refine (H2.out _).mono ?_
  rintro e V3 ⟨rfl, hb3⟩
  have B3 : Hid (Below w.heap.size w V3) := by first | exact Lib.hid ((B2.out).trans (hb3.mono (by have := B2.out.size; first | assumption | (simp <;> omega) | (simp; done)))) | exact Lib.hid (((B2.out).alloc (B2.out.size) _).trans (hb3.mono (by have := B2.out.size; first | assumption | (simp <;> omega) | (simp; done)))) | exact Lib.hid ((((B2.out).alloc (B2.out.size) _).alloc (by have := B2.out.size; simp <;> omega) _).trans (hb3.mono (by have := B2.out.size; first | assumption | (simp <;> omega) | (simp; done)))) | exact Lib.hid (((((B2.out).alloc (B2.out.size) _).alloc (by have := B2.out.size; simp <;> omega) _).alloc (by have := B2.out.size; simp <;> omega) _).trans (hb3.mono (by have := B2.out.size; first | assumption | (simp <;> omega) | (simp; done))))
  clear hb3
  go_simp
  go_wp2
  go_ret2
  exact ⟨by rw [E.out.1, E.out.2, E2.out]; try rfl, B3.out⟩
set_option maxHeartbeats 3200000 in
set_option maxRecDepth 100000 in
theorem showOff_ps (n : Int) (h0 : 0 ≤ n) (h1 : n ≤ 64800) (hs : n % 60 ≠ 0) (w : World) : Calls Tryz.prog 25 #[.int .i64 n] w fun e w' => e = .returned (.tuple #[.string (bs (offL n)), .int .i64 (offX n)]) ∧ Below w.heap.size w w' := by
  have hn : ¬ (n < -64800 ∨ 64800 < n) := by omega
  have X0 := fun w => grow2 (pWithin_p n (-64800) 64800 w)
  rw [(wi_ok hn).1, (wi_ok hn).2] at X0
  have H0 := Lib.hid X0
  clear X0
  have H1 := Lib.hid (pPair_any (n / 3600) (by omega) (by omega))
  have H2 := Lib.hid (pPair_any (n / 60 % 60) (by omega) (by omega))
  have H3 := Lib.hid (pPair_any (n % 60) (by omega) (by omega))
  have E : Hid (offL n = 43 :: timL n ∧ offX n = 0) := Lib.hid ⟨by unfold offL; rw [if_neg hn]; exact if_neg (by omega), by unfold offX; exact if_neg hn⟩
  have a1 : (⟨#[43]⟩ : ByteArray) ++ bs (twoL (n / 3600)) = bs (43 :: twoL (n / 3600)) := bs_plus _
  have a2 : bs (43 :: twoL (n / 3600)) ++ (⟨#[58]⟩ : ByteArray) = bs (43 :: twoL (n / 3600) ++ [58]) := by rw [bs_colon, append_bs]
  have a3 := append_bs (43 :: twoL (n / 3600) ++ [58]) (twoL (n / 60 % 60))
  have z1 : (bs (twoL (n / 3600))).size = 2 := bs_size _
  have z2 : (bs (twoL (n / 60 % 60))).size = 2 := bs_size _
  have z3 : (bs (43 :: twoL (n / 3600))).size = 3 := bs_size _
  have z4 : (bs (43 :: twoL (n / 3600) ++ [58])).size = 4 := bs_size _
  have z5 : (bs (43 :: twoL (n / 3600) ++ [58] ++ twoL (n / 60 % 60))).size = 6 := bs_size _
  have a4 : (⟨#[58]⟩ : ByteArray) ++ bs (twoL (n % 60)) = bs ([58] ++ twoL (n % 60)) := by rw [bs_colon, append_bs]
  have a5 := append_bs (43 :: twoL (n / 3600) ++ [58] ++ twoL (n / 60 % 60)) ([58] ++ twoL (n % 60))
  have z6 : (bs (twoL (n % 60))).size = 2 := bs_size _
  have z7 : (bs ([58] ++ twoL (n % 60))).size = 3 := bs_size _
  have E2 : Hid (43 :: timL n = 43 :: twoL (n / 3600) ++ [58] ++ twoL (n / 60 % 60) ++ ([58] ++ twoL (n % 60))) := Lib.hid (by unfold timL; rw [if_neg hs]; simp)
  generalize 43 :: twoL (n / 3600) ++ [58] ++ twoL (n / 60 % 60) ++ ([58] ++ twoL (n % 60)) = S5 at *
  generalize [58] ++ twoL (n % 60) = S4 at *
  generalize 43 :: twoL (n / 3600) ++ [58] ++ twoL (n / 60 % 60) = S3 at *
  generalize 43 :: twoL (n / 3600) ++ [58] = S2 at *
  generalize 43 :: twoL (n / 3600) = S1 at *
  generalize twoL (n / 3600) = A1 at *
  generalize twoL (n / 60 % 60) = A2 at *
  generalize twoL (n % 60) = A3 at *
  generalize timL n = TT at *
  have e1 : n.tdiv 3600 = n / 3600 := Int.tdiv_eq_ediv_of_nonneg (by omega)
  have e2 : n.tdiv 60 = n / 60 := Int.tdiv_eq_ediv_of_nonneg (by omega)
  have e3 : (n / 60).tmod 60 = n / 60 % 60 := Int.tmod_eq_emod_of_nonneg (by omega)
  have e4 : n.tmod 60 = n % 60 := Int.tmod_eq_emod_of_nonneg (by omega)
  have q0 : decide (n < 0) = false := decide_eq_false (by omega)
  have bh : 0 ≤ n / 3600 ∧ n / 3600 ≤ 18 := by omega
  have bm : 0 ≤ n / 60 % 60 ∧ n / 60 % 60 ≤ 59 := by omega
  have bx : 0 ≤ n % 60 ∧ n % 60 ≤ 59 := by omega
  have bq : 0 ≤ n / 60 ∧ n / 60 ≤ 1080 := by omega
  replace hn := Lib.hid hn
  generalize hm : n / 60 % 60 = m at *
  generalize hh : n / 3600 = h at *
  generalize hx : n % 60 = x at *
  have q2 : (x == 0) = false := beq_eq_false_iff_ne.2 hs
  replace hm := Lib.hid hm
  replace hh := Lib.hid hh
  replace hs := Lib.hid hs
  go_enter Tryz.func25, Tryz.ntmps25
  go_wp2_with fail
  
  refine (H0.out _).mono ?_
  rintro e V1 ⟨rfl, hb1⟩
  have B1 : Hid (Below w.heap.size w V1) := by first | exact Lib.hid ((Below.refl w.heap.size w).trans (hb1.mono (by first | assumption | (simp <;> omega) | (simp; done)))) | exact Lib.hid (((Below.refl w.heap.size w).alloc (Nat.le_refl _) _).trans (hb1.mono (by first | assumption | (simp <;> omega) | (simp; done)))) | exact Lib.hid ((((Below.refl w.heap.size w).alloc (Nat.le_refl _) _).alloc (by simp <;> omega) _).trans (hb1.mono (by first | assumption | (simp <;> omega) | (simp; done)))) | exact Lib.hid (((((Below.refl w.heap.size w).alloc (Nat.le_refl _) _).alloc (by simp <;> omega) _).alloc (by simp <;> omega) _).trans (hb1.mono (by first | assumption | (simp <;> omega) | (simp; done))))
  clear hb1
  go_simp
  go_wp2_with fail
  refine (H1.out _).mono ?_
  rintro e V2 ⟨rfl, hb2⟩
  have B2 : Hid (Below w.heap.size w V2) := by first | exact Lib.hid ((B1.out).trans (hb2.mono (by have := B1.out.size; first | assumption | (simp <;> omega) | (simp; done)))) | exact Lib.hid (((B1.out).alloc (B1.out.size) _).trans (hb2.mono (by have := B1.out.size; first | assumption | (simp <;> omega) | (simp; done)))) | exact Lib.hid ((((B1.out).alloc (B1.out.size) _).alloc (by have := B1.out.size; simp <;> omega) _).trans (hb2.mono (by have := B1.out.size; first | assumption | (simp <;> omega) | (simp; done)))) | exact Lib.hid (((((B1.out).alloc (B1.out.size) _).alloc (by have := B1.out.size; simp <;> omega) _).alloc (by have := B1.out.size; simp <;> omega) _).trans (hb2.mono (by have := B1.out.size; first | assumption | (simp <;> omega) | (simp; done))))
  clear hb2
  go_simp
  go_wp2_with fail
  refine (H2.out _).mono ?_
  rintro e V3 ⟨rfl, hb3⟩
  have B3 : Hid (Below w.heap.size w V3) := by first | exact Lib.hid ((B2.out).trans (hb3.mono (by have := B2.out.size; first | assumption | (simp <;> omega) | (simp; done)))) | exact Lib.hid (((B2.out).alloc (B2.out.size) _).trans (hb3.mono (by have := B2.out.size; first | assumption | (simp <;> omega) | (simp; done)))) | exact Lib.hid ((((B2.out).alloc (B2.out.size) _).alloc (by have := B2.out.size; simp <;> omega) _).trans (hb3.mono (by have := B2.out.size; first | assumption | (simp <;> omega) | (simp; done)))) | exact Lib.hid (((((B2.out).alloc (B2.out.size) _).alloc (by have := B2.out.size; simp <;> omega) _).alloc (by have := B2.out.size; simp <;> omega) _).trans (hb3.mono (by have := B2.out.size; first | assumption | (simp <;> omega) | (simp; done))))
  clear hb3
  go_simp
  go_wp2_with fail
  refine (H3.out _).mono ?_
  rintro e V4 ⟨rfl, hb4⟩
  have B4 : Hid (Below w.heap.size w V4) := by first | exact Lib.hid ((B3.out).trans (hb4.mono (by have := B3.out.size; first | assumption | (simp <;> omega) | (simp; done)))) | exact Lib.hid (((B3.out).alloc (B3.out.size) _).trans (hb4.mono (by have := B3.out.size; first | assumption | (simp <;> omega) | (simp; done)))) | exact Lib.hid ((((B3.out).alloc (B3.out.size) _).alloc (by have := B3.out.size; simp <;> omega) _).trans (hb4.mono (by have := B3.out.size; first | assumption | (simp <;> omega) | (simp; done)))) | exact Lib.hid (((((B3.out).alloc (B3.out.size) _).alloc (by have := B3.out.size; simp <;> omega) _).alloc (by have := B3.out.size; simp <;> omega) _).trans (hb4.mono (by have := B3.out.size; first | assumption | (simp <;> omega) | (simp; done))))
  clear hb4
  go_simp
  go_wp2
  go_ret2
  exact ⟨by rw [E.out.1, E.out.2, E2.out]; try rfl, B4.out⟩
set_option maxHeartbeats 3200000 in
set_option maxRecDepth 100000 in
theorem showOff_pz (n : Int) (h0 : 0 ≤ n) (h1 : n ≤ 64800) (hs : n % 60 = 0) (w : World) : Calls Tryz.prog 25 #[.int .i64 n] w fun e w' => e = .returned (.tuple #[.string (bs (offL n)), .int .i64 (offX n)]) ∧ Below w.heap.size w w' := by
  have hn : ¬ (n < -64800 ∨ 64800 < n) := by omega
  have X0 := fun w => grow2 (pWithin_p n (-64800) 64800 w)
  rw [(wi_ok hn).1, (wi_ok hn).2] at X0
  have H0 := Lib.hid X0
  clear X0
  have H1 := Lib.hid (pPair_any (n / 3600) (by omega) (by omega))
  have H2 := Lib.hid (pPair_any (n / 60 % 60) (by omega) (by omega))
  have E : Hid (offL n = 43 :: timL n ∧ offX n = 0) := Lib.hid ⟨by unfold offL; rw [if_neg hn]; exact if_neg (by omega), by unfold offX; exact if_neg hn⟩
  have a1 : (⟨#[43]⟩ : ByteArray) ++ bs (twoL (n / 3600)) = bs (43 :: twoL (n / 3600)) := bs_plus _
  have a2 : bs (43 :: twoL (n / 3600)) ++ (⟨#[58]⟩ : ByteArray) = bs (43 :: twoL (n / 3600) ++ [58]) := by rw [bs_colon, append_bs]
  have a3 := append_bs (43 :: twoL (n / 3600) ++ [58]) (twoL (n / 60 % 60))
  have z1 : (bs (twoL (n / 3600))).size = 2 := bs_size _
  have z2 : (bs (twoL (n / 60 % 60))).size = 2 := bs_size _
  have z3 : (bs (43 :: twoL (n / 3600))).size = 3 := bs_size _
  have z4 : (bs (43 :: twoL (n / 3600) ++ [58])).size = 4 := bs_size _
  have z5 : (bs (43 :: twoL (n / 3600) ++ [58] ++ twoL (n / 60 % 60))).size = 6 := bs_size _
  have E2 : Hid (43 :: timL n = 43 :: twoL (n / 3600) ++ [58] ++ twoL (n / 60 % 60)) := Lib.hid (by unfold timL; rw [if_pos hs]; simp)
  generalize 43 :: twoL (n / 3600) ++ [58] ++ twoL (n / 60 % 60) = S3 at *
  generalize 43 :: twoL (n / 3600) ++ [58] = S2 at *
  generalize 43 :: twoL (n / 3600) = S1 at *
  generalize twoL (n / 3600) = A1 at *
  generalize twoL (n / 60 % 60) = A2 at *
  generalize timL n = TT at *
  have e1 : n.tdiv 3600 = n / 3600 := Int.tdiv_eq_ediv_of_nonneg (by omega)
  have e2 : n.tdiv 60 = n / 60 := Int.tdiv_eq_ediv_of_nonneg (by omega)
  have e3 : (n / 60).tmod 60 = n / 60 % 60 := Int.tmod_eq_emod_of_nonneg (by omega)
  have e4 : n.tmod 60 = n % 60 := Int.tmod_eq_emod_of_nonneg (by omega)
  have q0 : decide (n < 0) = false := decide_eq_false (by omega)
  have bh : 0 ≤ n / 3600 ∧ n / 3600 ≤ 18 := by omega
  have bm : 0 ≤ n / 60 % 60 ∧ n / 60 % 60 ≤ 59 := by omega
  have bx : 0 ≤ n % 60 ∧ n % 60 ≤ 59 := by omega
  have bq : 0 ≤ n / 60 ∧ n / 60 ≤ 1080 := by omega
  replace hn := Lib.hid hn
  generalize hm : n / 60 % 60 = m at *
  generalize hh : n / 3600 = h at *
  generalize hx : n % 60 = x at *
  subst hs
  replace hm := Lib.hid hm
  replace hh := Lib.hid hh
  go_enter Tryz.func25, Tryz.ntmps25
  go_wp2_with fail
  
  refine (H0.out _).mono ?_
  rintro e V1 ⟨rfl, hb1⟩
  have B1 : Hid (Below w.heap.size w V1) := by first | exact Lib.hid ((Below.refl w.heap.size w).trans (hb1.mono (by first | assumption | (simp <;> omega) | (simp; done)))) | exact Lib.hid (((Below.refl w.heap.size w).alloc (Nat.le_refl _) _).trans (hb1.mono (by first | assumption | (simp <;> omega) | (simp; done)))) | exact Lib.hid ((((Below.refl w.heap.size w).alloc (Nat.le_refl _) _).alloc (by simp <;> omega) _).trans (hb1.mono (by first | assumption | (simp <;> omega) | (simp; done)))) | exact Lib.hid (((((Below.refl w.heap.size w).alloc (Nat.le_refl _) _).alloc (by simp <;> omega) _).alloc (by simp <;> omega) _).trans (hb1.mono (by first | assumption | (simp <;> omega) | (simp; done))))
  clear hb1
  go_simp
  go_wp2_with fail
  refine (H1.out _).mono ?_
  rintro e V2 ⟨rfl, hb2⟩
  have B2 : Hid (Below w.heap.size w V2) := by first | exact Lib.hid ((B1.out).trans (hb2.mono (by have := B1.out.size; first | assumption | (simp <;> omega) | (simp; done)))) | exact Lib.hid (((B1.out).alloc (B1.out.size) _).trans (hb2.mono (by have := B1.out.size; first | assumption | (simp <;> omega) | (simp; done)))) | exact Lib.hid ((((B1.out).alloc (B1.out.size) _).alloc (by have := B1.out.size; simp <;> omega) _).trans (hb2.mono (by have := B1.out.size; first | assumption | (simp <;> omega) | (simp; done)))) | exact Lib.hid (((((B1.out).alloc (B1.out.size) _).alloc (by have := B1.out.size; simp <;> omega) _).alloc (by have := B1.out.size; simp <;> omega) _).trans (hb2.mono (by have := B1.out.size; first | assumption | (simp <;> omega) | (simp; done))))
  clear hb2
  go_simp
  go_wp2_with fail
  refine (H2.out _).mono ?_
  rintro e V3 ⟨rfl, hb3⟩
  have B3 : Hid (Below w.heap.size w V3) := by first | exact Lib.hid ((B2.out).trans (hb3.mono (by have := B2.out.size; first | assumption | (simp <;> omega) | (simp; done)))) | exact Lib.hid (((B2.out).alloc (B2.out.size) _).trans (hb3.mono (by have := B2.out.size; first | assumption | (simp <;> omega) | (simp; done)))) | exact Lib.hid ((((B2.out).alloc (B2.out.size) _).alloc (by have := B2.out.size; simp <;> omega) _).trans (hb3.mono (by have := B2.out.size; first | assumption | (simp <;> omega) | (simp; done)))) | exact Lib.hid (((((B2.out).alloc (B2.out.size) _).alloc (by have := B2.out.size; simp <;> omega) _).alloc (by have := B2.out.size; simp <;> omega) _).trans (hb3.mono (by have := B2.out.size; first | assumption | (simp <;> omega) | (simp; done))))
  clear hb3
  go_simp
  go_wp2
  go_ret2
  exact ⟨by rw [E.out.1, E.out.2, E2.out]; try rfl, B3.out⟩
set_option maxHeartbeats 1600000 in
set_option maxRecDepth 100000 in
theorem pShowOffset_any (n : Int) (w : World) : Calls Tryz.prog 25 #[.int .i64 n] w fun e w' => e = .returned (.tuple #[.string (bs (offL n)), .int .i64 (offX n)]) ∧ Below w.heap.size w w' := by
  by_cases hr : n < -64800 ∨ 64800 < n
  · have X0 := fun w => grow2 (pWithin_p n (-64800) 64800 w)
    rw [(wi_no hr).1, (wi_no hr).2] at X0
    have H0 := Lib.hid X0
    have E : Hid (offL n = [] ∧ offX n = 8) := Lib.hid ⟨if_pos hr, if_pos hr⟩
    clear X0
    replace hr := Lib.hid hr
    go_enter Tryz.func25, Tryz.ntmps25
    go_wp2_with fail
    
    refine (H0.out _).mono ?_
    rintro e V1 ⟨rfl, hb1⟩
    have B1 : Hid (Below w.heap.size w V1) := by first | exact Lib.hid ((Below.refl w.heap.size w).trans (hb1.mono (by first | assumption | (simp <;> omega) | (simp; done)))) | exact Lib.hid (((Below.refl w.heap.size w).alloc (Nat.le_refl _) _).trans (hb1.mono (by first | assumption | (simp <;> omega) | (simp; done)))) | exact Lib.hid ((((Below.refl w.heap.size w).alloc (Nat.le_refl _) _).alloc (by simp <;> omega) _).trans (hb1.mono (by first | assumption | (simp <;> omega) | (simp; done)))) | exact Lib.hid (((((Below.refl w.heap.size w).alloc (Nat.le_refl _) _).alloc (by simp <;> omega) _).alloc (by simp <;> omega) _).trans (hb1.mono (by first | assumption | (simp <;> omega) | (simp; done))))
    clear hb1
    go_simp
    go_wp2
    go_ret2
    exact ⟨by rw [E.out.1, E.out.2]; unfold bs; try rfl, B1.out⟩
  · by_cases hn : n < 0
    · obtain ⟨a, rfl⟩ : ∃ a, n = -a := ⟨-n, by omega⟩
      by_cases hs : a % 60 = 0
      · exact showOff_nz a (by omega) (by omega) hs w
      · exact showOff_ns a (by omega) (by omega) hs w
    · by_cases hs : n % 60 = 0
      · exact showOff_pz n (by omega) (by omega) hs w
      · exact showOff_ps n (by omega) (by omega) hs w
end Go.Proofs.YteinjdmkmfeniaaGreatDoor
