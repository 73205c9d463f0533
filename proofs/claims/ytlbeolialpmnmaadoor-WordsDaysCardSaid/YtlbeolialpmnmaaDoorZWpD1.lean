/- Several texts in one: WpD. -/
import Derived.Test.YtlbeolialpmnmaaDoorZWpA1
namespace Go.Proofs.YtlbeolialpmnmaaDoor
set_option linter.unusedVariables false
set_option linter.unusedSimpArgs false
open Go.ChangeShapes Go.WideShapes Go.ChangeAt Go.RowKit
theorem cut_none {t s : List UInt8} (h : Lib.index t s = -1) : Lib.cut t s = (t, [], false) := by unfold Lib.cut; rw [h]; rfl
theorem cut_some {t s : List UInt8} {i : Nat} (h : Lib.index t s = (i : Int)) : Lib.cut t s = (t.take i, t.drop (i + s.length), true) := by
  unfold Lib.cut; rw [h, if_pos (by omega)]; rfl
theorem occ_at {t : List UInt8} {a b : UInt8} {i : Nat} (h : Lib.occAt t [a, b] i = true) : t[i]? = some a ∧ t[i + 1]? = some b ∧ i + 2 ≤ t.length := by
  unfold Lib.occAt at h
  obtain ⟨r, hr⟩ := List.isPrefixOf_iff_prefix.1 h
  have h0 : (t.drop i)[0]? = some a := by rw [← hr]; rfl
  have h1 : (t.drop i)[1]? = some b := by rw [← hr]; rfl
  have hl : (t.drop i).length = 2 + r.length := by rw [← hr]; simp; omega
  rw [List.getElem?_drop] at h0 h1
  rw [List.length_drop] at hl
  exact ⟨by simpa using h0, h1, by omega⟩
theorem at_occ {t : List UInt8} {a b : UInt8} {i : Nat} (h0 : t[i]? = some a) (h1 : t[i + 1]? = some b) : Lib.occAt t [a, b] i = true := by
  unfold Lib.occAt
  rw [List.isPrefixOf_iff_prefix]
  obtain ⟨p, e0⟩ := List.getElem?_eq_some_iff.1 h0
  obtain ⟨q, e1⟩ := List.getElem?_eq_some_iff.1 h1
  rw [List.drop_eq_getElem_cons p, List.drop_eq_getElem_cons q, e0, e1]
  exact ⟨_, rfl⟩
theorem mid_at {t : List UInt8} {a b : UInt8} (h : 5 ≤ t.length) : (t.take 5).drop 3 = [a, b] ↔ (t[3]? = some a ∧ t[4]? = some b) := by
  match t, h with
  | x0 :: x1 :: x2 :: x3 :: x4 :: r, _ => simp
theorem wk_letters {t : List UInt8} (h : wkdI (t.take 3) ≠ 0) {i : Nat} (hi : i < 3) : ∃ c, t[i]? = some c ∧ 97 ≤ c.toNat := by
  have b := wkd_bd (t.take 3)
  have e := wkd_some h
  have g : t[i]? = (t.take 3)[i]? := by rw [List.getElem?_take, if_pos hi]
  rw [g, e]
  generalize wkdI (t.take 3) = k at *
  have hk : k = 1 ∨ k = 2 ∨ k = 3 ∨ k = 4 ∨ k = 5 ∨ k = 6 ∨ k = 7 := by omega
  have hi3 : i = 0 ∨ i = 1 ∨ i = 2 := by omega
  clear g e b h hi
  rcases hk with rfl | rfl | rfl | rfl | rfl | rfl | rfl <;> rcases hi3 with rfl | rfl | rfl <;> exact ⟨_, rfl, by decide⟩
theorem num_byte {t : List UInt8} {lo hi : Int} {c : UInt8} {i : Nat} (h : t[i]? = some c) (hd : c.toNat < 48 ∨ 57 < c.toNat) (h45 : c.toNat ≠ 45) : numE t lo hi = 2 := by
  refine (num_form (numF_odd (neg := negB t) ?_)).1
  rw [List.all_eq_true]
  intro hall
  have hm : c ∈ bodyN t := by
    have hc : c ∈ t := List.mem_of_getElem? h
    by_cases hn : negB t = true
    · obtain ⟨e, h0⟩ := body_neg hn
      rw [e]
      match t, h0 with
      | d :: r, _ =>
        have hd : d.toNat = 45 := by unfold negB at hn; simpa using hn
        rcases List.mem_cons.1 hc with rfl | hr
        · exact absurd hd h45
        · exact hr
    · rw [body_pos (Bool.eq_false_iff.2 hn)]; exact hc
  have := hall c hm
  rw [dgB_iff] at this
  omega
theorem num_nil (lo hi : Int) : numE [] lo hi = 2 := (num_form (numF_short (by decide))).1
@[irreducible] def bndR (k : Int) (a b : List UInt8) : Int × Int × Int × Int := if wkdI a = 0 then (0, 0, 0, 2) else if numE b 1 31 = 0 then (k, numV b 1 31, wkdI a, 0) else (0, 0, 0, numE b 1 31)
theorem bnd_no {k : Int} {a b : List UInt8} (h : wkdI a = 0) : bndR k a b = (0, 0, 0, 2) := by unfold bndR; exact if_pos h
theorem bnd_ok {k : Int} {a b : List UInt8} (h : wkdI a ≠ 0) (h2 : numE b 1 31 = 0) : bndR k a b = (k, numV b 1 31, wkdI a, 0) := by unfold bndR; rw [if_neg h]; exact if_pos h2
theorem bnd_err {k : Int} {a b : List UInt8} (h : wkdI a ≠ 0) (h2 : numE b 1 31 ≠ 0) : bndR k a b = (0, 0, 0, numE b 1 31) := by unfold bndR; rw [if_neg h]; exact if_neg h2
theorem wk_three {t : List UInt8} (h : wkdI t ≠ 0) : t.length = 3 := by
  have b := wkd_bd t
  rw [wkd_some h]
  exact wkS_len _ (by omega) (by omega)
theorem day_first {t : List UInt8} (hno : t.take 5 ≠ lastL) {i : Nat} (hi : Lib.index t [62, 61] = (i : Int)) : dayR t = bndR 2 (t.take i) (t.drop (i + 2)) := by
  rcases Lib.index_spec t [62, 61] with ⟨h1, _⟩ | ⟨j, h1, hj, hocc, hbef⟩
  · omega
  obtain rfl : j = i := by omega
  obtain ⟨e0, e1, hroom⟩ := occ_at hocc
  have hodd : numE t 1 31 = 2 := num_byte e0 (by decide) (by decide)
  by_cases hw : wkdI (t.take j) = 0
  · rw [bnd_no hw]
    by_cases h5 : 5 < t.length ∧ 0 < wkdI (t.take 3)
    · have hl := fun i hi => wk_letters (t := t) (by omega) (i := i) hi
      have hj3 : 3 ≤ j := by
        by_cases hlt : j < 3
        · obtain ⟨c, hc, h97⟩ := hl j hlt
          rw [hc] at e0; obtain rfl := Option.some.inj e0; exact absurd h97 (by decide)
        · omega
      have hj3n : j ≠ 3 := by rintro rfl; omega
      by_cases ha : (t.take 5).drop 3 = [62, 61]
      · rw [mid_at (by omega)] at ha
        have := hbef 3 (by omega)
        rw [at_occ ha.1 ha.2] at this; cases this
      · by_cases hb : (t.take 5).drop 3 = [60, 61]
        · rw [day_before hno h5.1 h5.2 hb]
          rw [mid_at (by omega)] at hb
          have hj4 : j ≠ 4 := by
            rintro rfl
            rw [hb.2] at e0; revert e0; decide
          have e2 : (t.drop 5)[j - 5]? = some 62 := by rw [List.getElem?_drop, show 5 + (j - 5) = j by omega]; exact e0
          rw [num_byte e2 (by decide) (by decide)]; rfl
        · exact day_odd hno h5.1 h5.2 ha hb
    · rw [day_date (fun h => hno h.2) h5, hodd]; rfl
  · have h3 := wk_three hw
    rw [List.length_take] at h3
    obtain rfl : j = 3 := by omega
    have wb := wkd_bd (t.take 3)
    by_cases h5 : 5 < t.length
    · rw [day_from hno h5 (by omega) ((mid_at (by omega)).2 ⟨e0, e1⟩)]
      unfold bndR; rw [if_neg hw]
    · rw [day_date (fun h => hno h.2) (fun h => h5 h.1), hodd, show t.drop (3 + 2) = [] by rw [List.drop_eq_nil_iff]; omega]
      rw [bnd_err hw (by rw [num_nil]; decide), num_nil]; rfl
theorem day_second {t : List UInt8} (hno : t.take 5 ≠ lastL) (hF : Lib.index t [62, 61] = -1) {i : Nat} (hi : Lib.index t [60, 61] = (i : Int)) : dayR t = bndR 3 (t.take i) (t.drop (i + 2)) := by
  have hnF : ∀ k, k ≤ t.length → Lib.occAt t [62, 61] k = false := by
    rcases Lib.index_spec t [62, 61] with ⟨_, h⟩ | ⟨j, h1, _⟩
    · exact h
    · omega
  rcases Lib.index_spec t [60, 61] with ⟨h1, _⟩ | ⟨j, h1, hj, hocc, hbef⟩
  · omega
  obtain rfl : j = i := by omega
  obtain ⟨e0, e1, hroom⟩ := occ_at hocc
  have hodd : numE t 1 31 = 2 := num_byte e0 (by decide) (by decide)
  by_cases hw : wkdI (t.take j) = 0
  · rw [bnd_no hw]
    by_cases h5 : 5 < t.length ∧ 0 < wkdI (t.take 3)
    · have hl := fun i hi => wk_letters (t := t) (by omega) (i := i) hi
      have hj3 : 3 ≤ j := by
        by_cases hlt : j < 3
        · obtain ⟨c, hc, h97⟩ := hl j hlt
          rw [hc] at e0; obtain rfl := Option.some.inj e0; exact absurd h97 (by decide)
        · omega
      have hj3n : j ≠ 3 := by rintro rfl; omega
      by_cases ha : (t.take 5).drop 3 = [62, 61]
      · rw [mid_at (by omega)] at ha
        have := hnF 3 (by omega)
        rw [at_occ ha.1 ha.2] at this; cases this
      · by_cases hb : (t.take 5).drop 3 = [60, 61]
        · rw [mid_at (by omega)] at hb
          have := hbef 3 (by omega)
          rw [at_occ hb.1 hb.2] at this; cases this
        · exact day_odd hno h5.1 h5.2 ha hb
    · rw [day_date (fun h => hno h.2) h5, hodd]; rfl
  · have h3 := wk_three hw
    rw [List.length_take] at h3
    obtain rfl : j = 3 := by omega
    have wb := wkd_bd (t.take 3)
    by_cases h5 : 5 < t.length
    · rw [day_before hno h5 (by omega) ((mid_at (by omega)).2 ⟨e0, e1⟩)]
      unfold bndR; rw [if_neg hw]
    · rw [day_date (fun h => hno h.2) (fun h => h5 h.1), hodd, show t.drop (3 + 2) = [] by rw [List.drop_eq_nil_iff]; omega]
      rw [bnd_err hw (by rw [num_nil]; decide), num_nil]; rfl
theorem day_none {t : List UInt8} (hno : t.take 5 ≠ lastL) (hF : Lib.index t [62, 61] = -1) (hB : Lib.index t [60, 61] = -1) : dayR t = (if numE t 1 31 = 0 then (0, numV t 1 31, 0, 0) else (0, 0, 0, numE t 1 31)) := by
  have hnF : ∀ k, k ≤ t.length → Lib.occAt t [62, 61] k = false := by
    rcases Lib.index_spec t [62, 61] with ⟨_, h⟩ | ⟨j, h1, _⟩
    · exact h
    · omega
  have hnB : ∀ k, k ≤ t.length → Lib.occAt t [60, 61] k = false := by
    rcases Lib.index_spec t [60, 61] with ⟨_, h⟩ | ⟨j, h1, _⟩
    · exact h
    · omega
  by_cases h5 : 5 < t.length ∧ 0 < wkdI (t.take 3)
  · obtain ⟨c, hc, h97⟩ := wk_letters (t := t) (by omega) (i := 0) (by decide)
    have e := num_byte (lo := 1) (hi := 31) hc (by omega) (by omega)
    rw [e]
    refine day_odd hno h5.1 h5.2 (fun ha => ?_) (fun hb => ?_)
    · rw [mid_at (by omega)] at ha
      have := hnF 3 (by omega)
      rw [at_occ ha.1 ha.2] at this; cases this
    · rw [mid_at (by omega)] at hb
      have := hnB 3 (by omega)
      rw [at_occ hb.1 hb.2] at this; cases this
  · exact day_date (fun h => hno h.2) h5
end Go.Proofs.YtlbeolialpmnmaaDoor
