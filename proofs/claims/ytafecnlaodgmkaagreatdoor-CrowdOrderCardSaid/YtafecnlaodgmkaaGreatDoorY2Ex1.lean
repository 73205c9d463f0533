/- Several texts in one: ExA, ExB, ExC, ExM, ExS, ExR. -/
import Derived.Test.YtafecnlaodgmkaaGreatDoorY2Civ1
import Derived.Test.YtafecnlaodgmkaaGreatDoorY2Ct1
import Derived.Test.YtafecnlaodgmkaaGreatDoorY2Yr1
import Derived.Test.YtafecnlaodgmkaaGreatDoorY2Rul1
import Derived.Test.YtafecnlaodgmkaaGreatDoorY2Rp1
import Derived.LoopN
namespace Go.Proofs.YtafecnlaodgmkaaGreatDoor
set_option linter.unusedVariables false
set_option linter.unusedSimpArgs false
open Go.ChangeShapes Go.WideShapes Go.ChangeAt Go.RowKit
def YIs (S Y : Int) : Prop := ∃ m d h i s k E, IsCiv S 0 Y m d h i s k E
theorem yIs_in {S Y : Int} (h : YIs S Y) (s1 : -377705116800 ≤ S) (s2 : S ≤ 253402300799) : -9999 ≤ Y ∧ Y ≤ 9999 ∧ ∃ m d, mayB Y m d = true ∧ dnI Y m d = S / 86400 := by
  obtain ⟨m, d, hh, i, s, k, E, hc⟩ := h
  rcases hc with ⟨hn, _⟩ | ⟨_, _, hS, _⟩ | ⟨_, _, _, _, hm, y1, y2, hd, _⟩
  · omega
  · omega
  · exact ⟨y1, y2, m, d, hm, hd⟩
def staI (y : Int) : Int := dnI y 1 1 * 86400
theorem sta_bd {y : Int} (h : -900000 ≤ y ∧ y ≤ 900000) : -86400000000000 ≤ staI y ∧ staI y ≤ 86400086400000 := by
  have := dn_bd (y := y) (m := 1) (d := 1) h (by omega) (by omega)
  unfold staI
  omega
def endI (y : Int) : Int := if 9999 ≤ y then 253402300799 else staI (y + 1) - 1
end Go.Proofs.YtafecnlaodgmkaaGreatDoor
namespace Go.Proofs.YtafecnlaodgmkaaGreatDoor
set_option linter.unusedVariables false
set_option linter.unusedSimpArgs false
open Go.ChangeShapes Go.WideShapes Go.ChangeAt Go.RowKit
theorem yrV_bd {k n wd y m : Int} (h : yrE k n wd y m = 0) : -2000000000 ≤ yrV k n wd y m ∧ yrV k n wd y m ≤ 2000000000 := by
  by_cases h1 : mayD k n wd = false ∨ m < 1 ∨ 12 < m
  · have := (yr_bad (n := n) (y := y) h1).1; omega
  · by_cases h2 : k = 0 ∧ mdI y m < n
    · have := (yr_day h1 h2).1; omega
    · by_cases h3 : y < -9999 ∨ 10000 < y
      · have := (yr_range h1 h2 h3).1; omega
      · rw [(yr_ok h1 h2 h3).2]
        have hd := dn_bd (y := y) (m := m) (d := 1) (by omega) (by omega) (by omega)
        have hm := may_parts (k := k) (n := n) (w := wd) (by cases e : mayD k n wd; exact absurd (Or.inl e) h1; rfl)
        have hM := mdI_le y m
        unfold yrN upTo downTo
        generalize dnI y m 1 = N at *
        generalize mdI y m = M at *
        repeat' split
        all_goals omega
def atV (l : Lin) (Y y : Int) : Int × Bool :=
  if l.k = 1 then (if (-377705116800 ≤ l.s ∧ l.s ≤ 253402300799) ∧ Y = y then (l.s, true) else (0, false))
  else if l.k ≠ 2 ∨ y < l.f ∨ l.t < y then (0, false)
  else if yrE l.dk l.dn l.dw y l.m ≠ 0 then (0, false) else (yrV l.dk l.dn l.dw y l.m * 86400 + l.ti - l.rd, true)
end Go.Proofs.YtafecnlaodgmkaaGreatDoor
namespace Go.Proofs.YtafecnlaodgmkaaGreatDoor
set_option linter.unusedVariables false
set_option linter.unusedSimpArgs false
open Go.ChangeShapes Go.WideShapes Go.ChangeAt Go.RowKit
theorem yis_ex (S : Int) : ∃ Y, YIs S Y := by
  obtain ⟨y, m, d, h, i, s, k, E, hc⟩ := isCiv_ex S 0
  exact ⟨y, m, d, h, i, s, k, E, hc⟩
theorem yf_ex : ∃ YF : Int → Int, ∀ S, YIs S (YF S) := ⟨fun S => Classical.choose (yis_ex S), fun S => Classical.choose_spec (yis_ex S)⟩
end Go.Proofs.YtafecnlaodgmkaaGreatDoor
namespace Go.Proofs.YtafecnlaodgmkaaGreatDoor
set_option linter.unusedVariables false
set_option linter.unusedSimpArgs false
open Go.ChangeShapes Go.WideShapes Go.ChangeAt Go.RowKit
theorem sta_yst (y : Int) : staI y = yst y * 86400 := by
  have e : dnI y 1 1 = yst y := by unfold dnI; rw [show ((1 : Int) - 1).toNat = 0 from rfl]; unfold cmN; omega
  unfold staI; rw [e]
theorem yst_365 {a b : Int} (h : a < b) : yst a + 365 ≤ yst b := by
  have h1 := yst_mono (a := a + 1) (b := b) (by omega)
  have h2 : yst a + 365 ≤ yst (a + 1) := by unfold yst; omega
  omega
theorem yis_sta {S Y : Int} (h : YIs S Y) (s1 : -377705116800 ≤ S) (s2 : S ≤ 253402300799) : staI Y ≤ S ∧ S < staI (Y + 1) := by
  obtain ⟨_, _, m, d, hm, hd⟩ := yIs_in h s1 s2
  obtain ⟨e, h0, h1⟩ := dn_in hm
  have hd1 : 1 ≤ d := by unfold mayB at hm; simp at hm; exact hm.1
  rw [sta_yst, sta_yst, yst_succ]
  rw [e] at hd
  generalize yst Y = a at *
  generalize cmN Y (m - 1).toNat = c at *
  generalize ydI Y = n at *
  omega
theorem yis_mono {S T Y Z : Int} (h : YIs S Y) (h2 : YIs T Z) (s1 : -377705116800 ≤ S) (st : S ≤ T) (t2 : T ≤ 253402300799) : Y ≤ Z := by
  have a := yis_sta h s1 (by omega)
  have b := yis_sta h2 (by omega) t2
  by_cases hc : Z + 1 ≤ Y
  · have := yst_mono hc
    rw [sta_yst] at a b
    rw [sta_yst] at a b
    omega
  · omega
theorem cm_ge (y : Int) (k : Nat) (h : k ≤ 12) : 28 * (k : Int) ≤ cmN y k := by
  induction k with
  | zero => unfold cmN; decide
  | succ k ih =>
    have a := ih (by omega)
    have b := mdI_ge y ((k : Int) + 1) (by omega)
    rw [cm_succ]
    omega
theorem yrN_bd {k n w y m : Int} (h : yrE k n w y m = 0) : yst y + cmN y (m - 1).toNat - 6 ≤ yrN k n w y m ∧ yrN k n w y m ≤ yst y + cmN y (m - 1).toNat + 36 := by
  by_cases h1 : mayD k n w = false ∨ m < 1 ∨ 12 < m
  · have := (yr_bad (n := n) (y := y) h1).1; omega
  · have hm := may_parts (k := k) (n := n) (w := w) (by cases e : mayD k n w; exact absurd (Or.inl e) h1; rfl)
    have e : dnI y m 1 = yst y + cmN y (m - 1).toNat := by unfold dnI; omega
    have hM := mdI_ge y m (by omega)
    have hM2 := mdI_le y m
    unfold yrN upTo downTo
    rw [e]
    generalize yst y + cmN y (m - 1).toNat = N at *
    generalize mdI y m = M at *
    repeat' split
    all_goals omega
theorem yrN_lt {k n w y z m : Int} (h : yrE k n w y m = 0) (h2 : yrE k n w z m = 0) (hy : y < z) : yrN k n w y m + 200 < yrN k n w z m := by
  have hm : 1 ≤ m ∧ m ≤ 12 := by
    by_cases h1 : mayD k n w = false ∨ m < 1 ∨ 12 < m
    · have := (yr_bad (n := n) (y := y) h1).1; omega
    · omega
  have a := yrN_bd h
  have b := yrN_bd h2
  have c := yst_365 hy
  have d := cm_ge z (m - 1).toNat (by omega)
  have e := (cmN_bd y (m - 1).toNat).2
  omega
def momB (YF : Int → Int) (l : Lin) (y s : Int) : Prop := atV l (YF l.s) y = (s, true) ∧ -377705116800 ≤ s ∧ s ≤ 253402300799
theorem mom_at {YF : Int → Int} {l : Lin} {y s : Int} (hk : l.k = 1) (h : momB YF l y s) : s = l.s ∧ y = YF l.s := by
  obtain ⟨h, _, _⟩ := h
  unfold atV at h
  rw [if_pos hk] at h
  split at h
  · rename_i h2
    exact ⟨by simpa using h.symm, h2.2.symm⟩
  · simp at h
theorem mom_rule {YF : Int → Int} {l : Lin} {y s : Int} (hk : l.k = 2) (h : momB YF l y s) : l.f ≤ y ∧ y ≤ l.t ∧ yrE l.dk l.dn l.dw y l.m = 0 ∧ s = yrN l.dk l.dn l.dw y l.m * 86400 + l.ti - l.rd := by
  obtain ⟨h, _, _⟩ := h
  unfold atV at h
  rw [if_neg (by omega)] at h
  split at h
  · simp at h
  · rename_i h2
    split at h
    · simp at h
    · rename_i h3
      have h4 : yrE l.dk l.dn l.dw y l.m = 0 := Classical.not_not.1 h3
      have e : yrV l.dk l.dn l.dw y l.m = yrN l.dk l.dn l.dw y l.m := by unfold yrV; exact if_pos h4
      rw [e] at h
      refine ⟨by omega, by omega, h4, ?_⟩
      have := congrArg Prod.fst h
      exact this.symm
theorem mom_same {YF : Int → Int} {l : Lin} {y s t : Int} (h : momB YF l y s) (h2 : momB YF l y t) : s = t := by
  have := h.1.symm.trans h2.1
  simpa using this
theorem mom_lt {YF : Int → Int} {l : Lin} (hl : OkL l) {y z s t : Int} (h : momB YF l y s) (h2 : momB YF l z t) (hy : y < z) : s < t := by
  rcases hl.1 with ⟨hk, _⟩ | ⟨hk, _⟩
  · have a := (mom_at hk h).2
    have b := (mom_at hk h2).2
    omega
  · obtain ⟨_, _, e1, s1⟩ := mom_rule hk h
    obtain ⟨_, _, e2, s2⟩ := mom_rule hk h2
    have := yrN_lt e1 e2 hy
    omega
theorem mom_le {YF : Int → Int} {l : Lin} (hl : OkL l) {y z s t : Int} (h : momB YF l y s) (h2 : momB YF l z t) (hy : y ≤ z) : s ≤ t := by
  by_cases e : y = z
  · subst e; rw [mom_same h h2]; exact Int.le_refl _
  · have := mom_lt hl h h2 (by omega); omega
theorem mom_year {YF : Int → Int} (hYF : ∀ S, YIs S (YF S)) {l : Lin} (hl : OkL l) {y s x : Int} (h : momB YF l y s) (hx : x ≤ 253402300799) (hs : s ≤ x) : y ≤ YF x + 1 := by
  rcases hl.1 with ⟨hk, _⟩ | ⟨hk, _, _, _, _, m1, m2, _, t0, t1, r0, r1⟩
  · obtain ⟨a, b⟩ := mom_at hk h
    have := yis_mono (hYF l.s) (hYF x) (by have := h.2.1; omega) (by omega) hx
    omega
  · obtain ⟨_, _, e1, s1⟩ := mom_rule hk h
    have hb := (yrN_bd e1).1
    have hc := (cmN_bd y (l.m - 1).toNat).1
    have hq := (yis_sta (hYF x) (by have := h.2.1; omega) hx).2
    by_cases hc2 : YF x + 1 < y
    · have := yst_365 hc2
      rw [sta_yst] at hq
      generalize yst (YF x + 1) = a at *
      generalize yst y = b at *
      generalize yrN l.dk l.dn l.dw y l.m = N at *
      generalize cmN y (l.m - 1).toNat = c at *
      omega
    · omega
def seekN (p : Int → Bool) (y : Int) : Nat → Option Int
  | 0 => none
  | n + 1 => if p y = true then some y else seekN p (y - 1) n
theorem seek_hit {p : Int → Bool} {y : Int} {n : Nat} (h : p y = true) : seekN p y (n + 1) = some y := if_pos h
theorem seek_miss {p : Int → Bool} {y : Int} {n : Nat} (h : p y = false) : seekN p y (n + 1) = seekN p (y - 1) n := if_neg (by rw [h]; decide)
theorem seek_some {p : Int → Bool} : ∀ {n : Nat} {y a : Int}, seekN p y n = some a → p a = true ∧ a ≤ y ∧ y - n < a ∧ ∀ b, a < b → b ≤ y → p b = false := by
  intro n
  induction n with
  | zero => intro y a h; cases h
  | succ n ih =>
    intro y a h
    cases hp : p y
    · rw [seek_miss hp] at h
      obtain ⟨h1, h2, h3, h4⟩ := ih h
      refine ⟨h1, by omega, by omega, fun b hb hby => ?_⟩
      by_cases e : b = y
      · rw [e]; exact hp
      · exact h4 b hb (by omega)
    · rw [seek_hit hp] at h
      obtain rfl := Option.some.inj h
      exact ⟨hp, by omega, by omega, fun b h1 h2 => by omega⟩
theorem seek_none {p : Int → Bool} : ∀ {n : Nat} {y : Int}, seekN p y n = none → ∀ b, y - n < b → b ≤ y → p b = false := by
  intro n
  induction n with
  | zero => intro y _ b h1 h2; omega
  | succ n ih =>
    intro y h b h1 h2
    cases hp : p y
    · rw [seek_miss hp] at h
      by_cases e : b = y
      · rw [e]; exact hp
      · exact ih h b (by omega) (by omega)
    · rw [seek_hit hp] at h; cases h
def fitM (YF : Int → Int) (l : Lin) (x y : Int) : Bool := (atV l (YF l.s) y).2 && decide (-377705116800 ≤ (atV l (YF l.s) y).1) && decide ((atV l (YF l.s) y).1 ≤ x)
theorem fit_iff {YF : Int → Int} {l : Lin} {x y : Int} (hx : x ≤ 253402300799) : fitM YF l x y = true ↔ ∃ s, momB YF l y s ∧ s ≤ x := by
  unfold fitM momB
  generalize atV l (YF l.s) y = a
  obtain ⟨s, b⟩ := a
  constructor
  · intro h
    simp only [Bool.and_eq_true, decide_eq_true_eq] at h
    exact ⟨s, ⟨by rw [h.1.1], h.1.2, by omega⟩, h.2⟩
  · rintro ⟨t, ⟨e, h1, h2⟩, h3⟩
    obtain ⟨rfl, rfl⟩ := Prod.mk.inj e
    simp only [Bool.and_eq_true, decide_eq_true_eq]
    exact ⟨⟨trivial, h1⟩, h3⟩
def hiY (YF : Int → Int) (l : Lin) (x : Int) : Int := if l.k = 1 then YF l.s else min (YF x + 1) (max l.t l.f)
def cnY (YF : Int → Int) (l : Lin) (x : Int) : Nat := if l.k = 1 then 1 else (hiY YF l x - l.f + 1).toNat
def lineA (YF : Int → Int) (l : Lin) (x : Int) : Option Int := (seekN (fitM YF l x) (hiY YF l x) (cnY YF l x)).map (fun y => (atV l (YF l.s) y).1)
theorem hi_mom {YF : Int → Int} (hYF : ∀ S, YIs S (YF S)) {l : Lin} (hl : OkL l) {y s x : Int} (h : momB YF l y s) (hx : x ≤ 253402300799) (hs : s ≤ x) : hiY YF l x - cnY YF l x < y ∧ y ≤ hiY YF l x := by
  have hy := mom_year hYF hl h hx hs
  rcases hl.1 with ⟨hk, _⟩ | ⟨hk, _⟩
  · have e := (mom_at hk h).2
    unfold cnY hiY
    rw [if_pos hk, if_pos hk]
    omega
  · obtain ⟨a, b, _⟩ := mom_rule hk h
    unfold cnY hiY
    rw [if_neg (by omega), if_neg (by omega)]
    omega
theorem lineA_some {YF : Int → Int} (hYF : ∀ S, YIs S (YF S)) {l : Lin} (hl : OkL l) {x a : Int} (hx : x ≤ 253402300799) (h : lineA YF l x = some a) : (∃ y, momB YF l y a) ∧ a ≤ x ∧ ∀ z t, momB YF l z t → t ≤ x → t ≤ a := by
  unfold lineA at h
  obtain ⟨y, hy, rfl⟩ := Option.map_eq_some_iff.1 h
  obtain ⟨h1, h2, h3, h4⟩ := seek_some hy
  obtain ⟨s, hm, hs⟩ := (fit_iff hx).1 h1
  have e : (atV l (YF l.s) y).1 = s := by rw [hm.1]
  rw [e]
  refine ⟨⟨y, hm⟩, hs, fun z t hz ht => ?_⟩
  obtain ⟨_, hb⟩ := hi_mom hYF hl hz hx ht
  by_cases hzy : y < z
  · have := h4 z hzy hb
    rw [(fit_iff hx).2 ⟨t, hz, ht⟩] at this; cases this
  · exact mom_le hl hz hm (by omega)
theorem lineA_none {YF : Int → Int} (hYF : ∀ S, YIs S (YF S)) {l : Lin} (hl : OkL l) {x : Int} (hx : x ≤ 253402300799) (h : lineA YF l x = none) : ∀ z t, momB YF l z t → ¬ t ≤ x := by
  unfold lineA at h
  have h1 := Option.map_eq_none_iff.1 h
  intro z t hz ht
  obtain ⟨ha, hb⟩ := hi_mom hYF hl hz hx ht
  have := seek_none h1 z ha hb
  rw [(fit_iff hx).2 ⟨t, hz, ht⟩] at this; cases this
def stepA (st : Int × Int) (i : Nat) : Option Int → Int × Int
  | none => st
  | some a => if st.2 < 0 ∨ st.1 ≤ a then (a, (i : Int)) else st
theorem stepA_some {st : Int × Int} {i : Nat} {a : Int} : stepA st i (some a) = if st.2 < 0 ∨ st.1 ≤ a then (a, (i : Int)) else st := rfl
theorem stepA_none {st : Int × Int} {i : Nat} : stepA st i none = st := rfl
def ahS (f : Nat → Option Int) : Nat → Int × Int
  | 0 => (0, -1)
  | k + 1 => stepA (ahS f k) k (f k)
theorem ahS_spec (f : Nat → Option Int) (n : Nat) : (ahS f n = (0, -1) ∧ ∀ j, j < n → f j = none) ∨ (∃ (i : Nat) (a : Int), i < n ∧ ahS f n = (a, (i : Int)) ∧ f i = some a ∧ ∀ j b, j < n → f j = some b → b < a ∨ (b = a ∧ j ≤ i)) := by
  induction n with
  | zero => exact Or.inl ⟨rfl, fun j h => by omega⟩
  | succ n ih =>
    show (stepA (ahS f n) n (f n) = _ ∧ _) ∨ _
    cases hf : f n with
    | none =>
      rcases ih with ⟨h1, h2⟩ | ⟨i, a, hi, h1, h2, h3⟩
      · refine Or.inl ⟨h1, fun j hj => ?_⟩
        by_cases e : j = n
        · subst e; exact hf
        · exact h2 j (by omega)
      · refine Or.inr ⟨i, a, by omega, by show stepA (ahS f n) n (f n) = _; rw [hf]; exact h1, h2, fun j b hj hb => ?_⟩
        by_cases e : j = n
        · subst e; rw [hf] at hb; cases hb
        · exact h3 j b (by omega) hb
    | some c =>
      refine Or.inr ?_
      rcases ih with ⟨h1, h2⟩ | ⟨i, a, hi, h1, h2, h3⟩
      · refine ⟨n, c, by omega, ?_, hf, fun j b hj hb => ?_⟩
        · show stepA (ahS f n) n (f n) = _
          rw [hf, h1, stepA_some]; exact if_pos (Or.inl (show (-1 : Int) < 0 by decide))
        · by_cases e : j = n
          · subst e; rw [hf] at hb; obtain rfl := Option.some.inj hb; exact Or.inr ⟨rfl, by omega⟩
          · rw [h2 j (by omega)] at hb; cases hb
      · by_cases hc : a ≤ c
        · refine ⟨n, c, by omega, ?_, hf, fun j b hj hb => ?_⟩
          · show stepA (ahS f n) n (f n) = _
            rw [hf, h1, stepA_some]; exact if_pos (Or.inr hc)
          · by_cases e : j = n
            · subst e; rw [hf] at hb; obtain rfl := Option.some.inj hb; exact Or.inr ⟨rfl, by omega⟩
            · rcases h3 j b (by omega) hb with h | ⟨h, _⟩
              · exact Or.inl (by omega)
              · by_cases e2 : b = c
                · exact Or.inr ⟨e2, by omega⟩
                · exact Or.inl (by omega)
        · refine ⟨i, a, by omega, ?_, h2, fun j b hj hb => ?_⟩
          · show stepA (ahS f n) n (f n) = _
            rw [hf, h1, stepA_some]
            refine if_neg ?_
            rintro (h | h)
            · have h4 : (i : Int) < 0 := h
              omega
            · exact hc h
          · by_cases e : j = n
            · subst e; rw [hf] at hb; obtain rfl := Option.some.inj hb; exact Or.inl (by omega)
            · exact h3 j b (by omega) hb
def lnA (YF : Int → Int) (ls : List Lin) (x : Int) (k : Nat) : Option Int := (ls[k]?).bind (fun l => lineA YF l x)
def ahT (YF : Int → Int) (z : Src) (x : Int) : Int × Bool × List UInt8 :=
  if (ahS (lnA YF z.lns x) z.lns.length).2 < 0 then (z.off, z.dst, z.abb) else ((z.lns[(ahS (lnA YF z.lns x) z.lns.length).2.toNat]?).elim (0, false, []) (fun l => (l.off, l.dst, l.abb)))
end Go.Proofs.YtafecnlaodgmkaaGreatDoor
namespace Go.Proofs.YtafecnlaodgmkaaGreatDoor
set_option linter.unusedVariables false
set_option linter.unusedSimpArgs false
open Go.ChangeShapes Go.WideShapes Go.ChangeAt Go.RowKit
abbrev Tri := Int × Bool × List UInt8
abbrev Chg := Int × Tri
def triOf (l : Lin) : Tri := (l.off, l.dst, l.abb)
structure IsEv (YF : Int → Int) (ls : List Lin) (low high : Int) (L : List Chg) : Prop where
  rise : (L.map (·.1)).Pairwise (· < ·)
  each : ∀ e ∈ L, low ≤ e.1 ∧ e.1 ≤ high ∧ ∃ (i : Nat) (l : Lin), ls[i]? = some l ∧ (∃ y, momB YF l y e.1) ∧ e.2 = triOf l ∧ ∀ (j : Nat) (m : Lin), i < j → ls[j]? = some m → ∀ y, ¬ momB YF m y e.1
  all : ∀ (i : Nat) (l : Lin) (y s : Int), ls[i]? = some l → momB YF l y s → low ≤ s → s ≤ high → ∃ e ∈ L, e.1 = s
theorem IsEv.lt {YF : Int → Int} {ls : List Lin} {low high : Int} {L : List Chg} (h : IsEv YF ls low high L) {i j : Nat} (hij : i < j) (hj : j < L.length) : (L[i]'(by omega)).1 < L[j].1 := by
  have := List.pairwise_iff_getElem.1 h.rise i j (by simp; omega) (by simpa using hj) hij
  simpa using this
theorem sorted_ext : ∀ {a b : List Int}, a.Pairwise (· < ·) → b.Pairwise (· < ·) → (∀ x, x ∈ a ↔ x ∈ b) → a = b := by
  intro a
  induction a with
  | nil =>
    intro b _ _ h
    cases b with
    | nil => rfl
    | cons y b => exact absurd ((h y).2 (by simp)) (by simp)
  | cons x a ih =>
    intro b ha hb h
    cases b with
    | nil => exact absurd ((h x).1 (by simp)) (by simp)
    | cons y b =>
      rw [List.pairwise_cons] at ha hb
      have hxy : x = y := by
        have h1 := (h x).1 (by simp)
        have h2 := (h y).2 (by simp)
        rcases List.mem_cons.1 h1 with h1 | h1
        · exact h1
        · rcases List.mem_cons.1 h2 with h2 | h2
          · exact h2.symm
          · have := hb.1 x h1; have := ha.1 y h2; omega
      subst hxy
      congr 1
      refine ih ha.2 hb.2 (fun z => ?_)
      have hz := h z
      constructor
      · intro hm
        have := hz.1 (by simp [hm])
        rcases List.mem_cons.1 this with e | e
        · have := ha.1 z hm; omega
        · exact e
      · intro hm
        have := hz.2 (by simp [hm])
        rcases List.mem_cons.1 this with e | e
        · have := hb.1 z hm; omega
        · exact e
theorem IsEv.mem {YF : Int → Int} {ls : List Lin} {low high : Int} {L : List Chg} (h : IsEv YF ls low high L) (x : Int) : x ∈ L.map (·.1) ↔ low ≤ x ∧ x ≤ high ∧ ∃ (i : Nat) (l : Lin) (y : Int), ls[i]? = some l ∧ momB YF l y x := by
  constructor
  · intro hx
    obtain ⟨e, he, rfl⟩ := List.mem_map.1 hx
    obtain ⟨a, b, i, l, hi, ⟨y, hy⟩, _⟩ := h.each e he
    exact ⟨a, b, i, l, y, hi, hy⟩
  · rintro ⟨a, b, i, l, y, hi, hy⟩
    obtain ⟨e, he, rfl⟩ := h.all i l y x hi hy a b
    exact List.mem_map.2 ⟨e, he, rfl⟩
theorem IsEv.uniq {YF : Int → Int} {ls : List Lin} {low high : Int} {L M : List Chg} (h : IsEv YF ls low high L) (k : IsEv YF ls low high M) : L = M := by
  have hs : L.map (·.1) = M.map (·.1) := sorted_ext h.rise k.rise (fun x => by rw [h.mem, k.mem])
  have hlen : L.length = M.length := by simpa using congrArg List.length hs
  apply List.ext_getElem hlen
  intro i h1 h2
  have e1 : L[i].1 = M[i].1 := by
    have := congrArg (fun l => l[i]?) hs
    simpa [h1, h2] using this
  obtain ⟨_, _, p, l, hp, ⟨y, hy⟩, ht, hla⟩ := h.each L[i] (List.getElem_mem h1)
  obtain ⟨_, _, q, m, hq, ⟨u, hu⟩, ht2, hla2⟩ := k.each M[i] (List.getElem_mem h2)
  have hpq : p = q := by
    rcases Nat.lt_trichotomy p q with h3 | h3 | h3
    · exact absurd (e1 ▸ hu) (hla q m h3 hq u)
    · exact h3
    · exact absurd (e1 ▸ hy) (hla2 p l h3 hp y)
  subst hpq
  rw [hp] at hq
  obtain rfl := Option.some.inj hq
  exact Prod.ext e1 (ht.trans ht2.symm)
end Go.Proofs.YtafecnlaodgmkaaGreatDoor
namespace Go.Proofs.YtafecnlaodgmkaaGreatDoor
set_option linter.unusedVariables false
set_option linter.unusedSimpArgs false
open Go.ChangeShapes Go.WideShapes Go.ChangeAt Go.RowKit
def chgV (e : Chg) : List Value := [.int .i64 e.1, .int .i64 e.2.1, .bool e.2.2.1, .string (bs e.2.2.2)]
def chgVs (L : List Chg) : List Value := L.flatMap chgV
theorem chgVs_at : ∀ (T : List Chg) (k : Nat) (hk : k < T.length) (j : Nat) (hj : j < 4), (chgVs T)[k * 4 + j]? = (chgV T[k])[j]? := by
  intro T
  induction T with
  | nil => intro k hk; simp at hk
  | cons x T ih =>
    intro k hk j hj
    have hl : (chgV x).length = 4 := rfl
    unfold chgVs at *
    rw [List.flatMap_cons]
    cases k with
    | zero => rw [List.getElem?_append_left (by omega)]; simp
    | succ k =>
      rw [List.getElem?_append_right (by omega), hl, show (k + 1) * 4 + j - 4 = k * 4 + j by omega, ih k (by simpa using hk) j hj]
      simp
theorem Rd.chg {w : World} {A : Option Addr} {T : List Chg} (h : Rd w A (chgVs T)) {k : Nat} (hk : k < T.length) :
    ∃ b o, A = some ⟨b, o, none⟩ ∧ b < w.heap.size ∧ ∀ i (hi : i < T.length), w.cell? ⟨b, o + i * 4, none⟩ = some (.int .i64 T[i].1) ∧ w.cell? ⟨b, o + i * 4 + 1, none⟩ = some (.int .i64 T[i].2.1) ∧ w.cell? ⟨b, o + i * 4 + 2, none⟩ = some (.bool T[i].2.2.1) ∧ w.cell? ⟨b, o + i * 4 + 3, none⟩ = some (.string (bs T[i].2.2.2)) := by
  have h0 := chgVs_at T k hk 0 (by decide)
  obtain ⟨b, o, hA, hb, _⟩ := h _ _ h0
  refine ⟨b, o, hA, hb, fun i hi => ?_⟩
  have key : ∀ j (hj : j < 4) u, (chgV T[i])[j]? = some u → w.cell? ⟨b, o + i * 4 + j, none⟩ = some u := by
    intro j hj u hu
    have := h.at_ hA ((chgVs_at T i hi j hj).trans hu)
    rwa [← Nat.add_assoc] at this
  exact ⟨key 0 (by decide) _ rfl, key 1 (by decide) _ rfl, key 2 (by decide) _ rfl, key 3 (by decide) _ rfl⟩
def RetChg (P : List Chg → Prop) (E : Int) (w : World) (r : Ending) (w' : World) : Prop :=
  ∃ (L : List Chg) (A : Option Addr) (c : Nat), r = .returned (.tuple #[.slice A L.length c, .int .i64 E]) ∧ Rd w' A (chgVs L) ∧ P L ∧ L.length ≤ 1000000000000 ∧ Below w.heap.size w w'
noncomputable def evE (z : Src) (f t : Int) : Int := if ckU z ≠ 0 then (if ckU z = 8 ∧ t < f then 5 else ckU z) else if t < f then 5 else if f < -9999 ∨ 9999 < t then 8 else 0
def EvP (YF : Int → Int) (z : Src) (f t : Int) (L : List Chg) : Prop := if evE z f t = 0 then IsEv YF z.lns (staI f) (endI t) L else L = []
def alnL : List Chg → Tri → List Chg
  | [], _ => []
  | e :: l, was => if e.2 = was then alnL l e.2 else e :: alnL l e.2
def wasT (YF : Int → Int) (z : Src) (f : Int) : Tri := if -377705116800 < staI f then ahT YF z (staI f - 1) else (z.off, z.dst, z.abb)
def ChP (YF : Int → Int) (z : Src) (f t : Int) (M : List Chg) : Prop := ∃ L, EvP YF z f t L ∧ M = alnL L (wasT YF z f)
theorem endI_max {y : Int} (h : y ≤ 9999) : endI y ≤ 253402300799 := by
  unfold endI
  split
  · omega
  · have := yst_mono (a := y + 1) (b := 9999) (by omega)
    rw [sta_yst]
    have e : yst 9999 ≤ 2932532 := by unfold yst; decide
    omega
theorem staI_min {y : Int} (h : -9999 ≤ y) : -377705116800 ≤ staI y := by
  have := yst_mono h
  rw [yst_bounds.1] at this
  rw [sta_yst]
  omega
end Go.Proofs.YtafecnlaodgmkaaGreatDoor
