/- Several texts in one: ExA, ExB, ExC, ExM, ExS, ExR, ExN. -/
import Derived.Test.YtacpcjdiljnlaaaGreatDoorY2Civ1
import Derived.Test.YtacpcjdiljnlaaaGreatDoorY2Yr1
import Derived.Test.YtacpcjdiljnlaaaGreatDoorY2Ct1
import Derived.Test.YtacpcjdiljnlaaaGreatDoorY2Rul1
import Derived.Test.YtacpcjdiljnlaaaGreatDoorY2Rp1
import Derived.LoopN
namespace Go.Proofs.YtacpcjdiljnlaaaGreatDoor
set_option linter.unusedVariables false
set_option linter.unusedSimpArgs false
open Go.ChangeShapes Go.WideShapes Go.ChangeAt Go.RowKit
def YIs (S Y : Int) : Prop := ∃ m d h i s k E, IsCiv S 0 Y m d h i s k E
theorem yIs_in {S Y : Int} (h : YIs S Y) (s1 : -377705116800 ≤ S) (s2 : S ≤ 253402300799) : -9999 ≤ Y ∧ Y ≤ 9999 ∧ ∃ m d, mayB Y m d = true ∧ dnI Y m d = S / 86400 := by
  obtain ⟨m, d, hh, i, s, k, E, hc⟩ := h
  rcases hc with ⟨hn, _⟩ | ⟨_, _, hS, _⟩ | ⟨_, _, _, _, hm, y1, y2, hd, _⟩
  · omega
  · omega
  · exact ⟨y1, y2, m, d, hm, hd⟩
def staI (y : Int) : Int := dnI y 1 1 * 86400
theorem sta_bd {y : Int} (h : -900000 ≤ y ∧ y ≤ 900000) : -86400000000000 ≤ staI y ∧ staI y ≤ 86400086400000 := by
  have := dn_bd (y := y) (m := 1) (d := 1) h (by omega) (by omega)
  unfold staI
  omega
theorem rStarts_any (y : Int) (hy : -900000 ≤ y ∧ y ≤ 900000) (w : World) : Calls Tryz.prog 27 #[.int .i64 y] w fun e w' => e = .returned (.int .i64 (staI y)) ∧ Below w.heap.size w w' := by
  have HX := Lib.hid (rNumber_any y 1 1 hy (by omega) (by omega))
  have hb := dn_bd (y := y) (m := 1) (d := 1) hy (by omega) (by omega)
  have E : Hid (staI y = dnI y 1 1 * 86400) := Lib.hid rfl
  generalize dnI y 1 1 = N at *
  generalize staI y = R at *
  have hw : IntKind.i64.wrap (N * 86400) = N * 86400 := by
    unfold IntKind.wrap
    simp [IntKind.bits, IntKind.signed]
    omega
  go_enter Tryz.func27, Tryz.ntmps27
  go_wp2_with fail
  refine (HX.out _).mono ?_
  rintro e w1 ⟨rfl, hb1⟩
  replace hb1 := Lib.hid hb1
  go_wp2
  go_ret
  exact ⟨by rw [E.out]; rfl, hb1.out⟩
def endI (y : Int) : Int := if 9999 ≤ y then 253402300799 else staI (y + 1) - 1
theorem rEnds_any (y : Int) (hy : -800000 ≤ y ∧ y ≤ 800000) (w : World) : Calls Tryz.prog 14 #[.int .i64 y] w fun e w' => e = .returned (.int .i64 (endI y)) ∧ Below w.heap.size w w' := by
  by_cases h : 9999 ≤ y
  · have E : Hid (endI y = 253402300799) := Lib.hid (if_pos h)
    generalize endI y = R at *
    go_enter Tryz.func14, Tryz.ntmps14
    go_wp2
    go_ret
    exact ⟨by rw [E.out]; rfl, Below.refl _ _⟩
  · have E : Hid (endI y = staI (y + 1) - 1) := Lib.hid (if_neg h)
    have HX := Lib.hid (rStarts_any (y + 1) (by omega))
    have hb := sta_bd (y := y + 1) (by omega)
    generalize endI y = R at *
    generalize staI (y + 1) = N at *
    have hw : IntKind.i64.wrap (N - 1) = N - 1 := by
      unfold IntKind.wrap
      simp [IntKind.bits, IntKind.signed]
      omega
    have hw2 : IntKind.i64.wrap (y + 1) = y + 1 := by
      unfold IntKind.wrap
      simp [IntKind.bits, IntKind.signed]
      omega
    go_enter Tryz.func14, Tryz.ntmps14
    go_wp2_with fail
    refine (HX.out _).mono ?_
    rintro e w1 ⟨rfl, hb1⟩
    replace hb1 := Lib.hid hb1
    go_wp2
    go_ret
    exact ⟨by rw [E.out]; rfl, hb1.out⟩
end Go.Proofs.YtacpcjdiljnlaaaGreatDoor
namespace Go.Proofs.YtacpcjdiljnlaaaGreatDoor
set_option linter.unusedVariables false
set_option linter.unusedSimpArgs false
open Go.ChangeShapes Go.WideShapes Go.ChangeAt Go.RowKit
theorem yrV_bd {k n wd y m : Int} (h : yrE k n wd y m = 0) : -2000000000 ≤ yrV k n wd y m ∧ yrV k n wd y m ≤ 2000000000 := by
  by_cases h1 : mayD k n wd = false ∨ m < 1 ∨ 12 < m
  · have := (yr_bad (n := n) (y := y) h1).1; omega
  · by_cases h2 : k = 0 ∧ mdI y m < n
    · have := (yr_day h1 h2).1; omega
    · by_cases h3 : y < -9999 ∨ 10000 < y
      · have := (yr_range h1 h2 h3).1; omega
      · rw [(yr_ok h1 h2 h3).2]
        have hd := dn_bd (y := y) (m := m) (d := 1) (by omega) (by omega) (by omega)
        have hm := may_parts (k := k) (n := n) (w := wd) (by cases e : mayD k n wd; exact absurd (Or.inl e) h1; rfl)
        have hM := mdI_le y m
        unfold yrN upTo downTo
        generalize dnI y m 1 = N at *
        generalize mdI y m = M at *
        repeat' split
        all_goals omega
def atV (l : Lin) (Y y : Int) : Int × Bool :=
  if l.k = 1 then (if (-377705116800 ≤ l.s ∧ l.s ≤ 253402300799) ∧ Y = y then (l.s, true) else (0, false))
  else if l.k ≠ 2 ∨ y < l.f ∨ l.t < y then (0, false)
  else if yrE l.dk l.dn l.dw y l.m ≠ 0 then (0, false) else (yrV l.dk l.dn l.dw y l.m * 86400 + l.ti - l.rd, true)
end Go.Proofs.YtacpcjdiljnlaaaGreatDoor
namespace Go.Proofs.YtacpcjdiljnlaaaGreatDoor
set_option linter.unusedVariables false
set_option linter.unusedSimpArgs false
open Go.ChangeShapes Go.WideShapes Go.ChangeAt Go.RowKit
theorem yis_ex (S : Int) : ∃ Y, YIs S Y := by
  obtain ⟨y, m, d, h, i, s, k, E, hc⟩ := isCiv_ex S 0
  exact ⟨y, m, d, h, i, s, k, E, hc⟩
theorem yf_ex : ∃ YF : Int → Int, ∀ S, YIs S (YF S) := ⟨fun S => Classical.choose (yis_ex S), fun S => Classical.choose_spec (yis_ex S)⟩
def lstF (YF : Int → Int) (y : Int) (l : Lin) : Int := if l.k = 1 then max y (YF l.s) else if l.t ≠ 1048576 then max (max y l.f) l.t else max y l.f
def lstY (YF : Int → Int) (ls : List Lin) : Int := ls.foldl (lstF YF) (-9999)
theorem lstY_take (YF : Int → Int) {ls : List Lin} {k : Nat} (h : k < ls.length) : lstY YF (ls.take (k + 1)) = lstF YF (lstY YF (ls.take k)) ls[k] := by
  unfold lstY
  rw [List.take_succ_eq_append_getElem h, List.foldl_append]
  rfl
theorem lstF_bd {YF : Int → Int} (hYF : ∀ S, YIs S (YF S)) {y : Int} {l : Lin} (h : OkL l) (h1 : -9999 ≤ y) (h2 : y ≤ 9999) : -9999 ≤ lstF YF y l ∧ lstF YF y l ≤ 9999 := by
  unfold lstF
  rcases h.1 with ⟨hk, _, _, _, _, _, _, _, _, s1, s2⟩ | ⟨hk, _, f1, f2, ht, _⟩
  · obtain ⟨a, b, _⟩ := yIs_in (hYF l.s) s1 s2
    rw [if_pos hk]
    omega
  · rw [if_neg (by omega)]
    split
    · rename_i h3
      rcases ht with ht | ht
      · exact absurd ht h3
      · omega
    · omega
theorem lstY_bd {YF : Int → Int} (hYF : ∀ S, YIs S (YF S)) {ls : List Lin} (h : ∀ l ∈ ls, OkL l) (k : Nat) (hk : k ≤ ls.length) : -9999 ≤ lstY YF (ls.take k) ∧ lstY YF (ls.take k) ≤ 9999 := by
  induction k with
  | zero => unfold lstY; simp
  | succ k ih =>
    obtain ⟨a, b⟩ := ih (by omega)
    rw [lstY_take YF (by omega)]
    exact lstF_bd hYF (h _ (by simp)) a b
end Go.Proofs.YtacpcjdiljnlaaaGreatDoor
namespace Go.Proofs.YtacpcjdiljnlaaaGreatDoor
set_option linter.unusedVariables false
set_option linter.unusedSimpArgs false
open Go.ChangeShapes Go.WideShapes Go.ChangeAt Go.RowKit
theorem sta_yst (y : Int) : staI y = yst y * 86400 := by
  have e : dnI y 1 1 = yst y := by unfold dnI; rw [show ((1 : Int) - 1).toNat = 0 from rfl]; unfold cmN; omega
  unfold staI; rw [e]
theorem yst_365 {a b : Int} (h : a < b) : yst a + 365 ≤ yst b := by
  have h1 := yst_mono (a := a + 1) (b := b) (by omega)
  have h2 : yst a + 365 ≤ yst (a + 1) := by unfold yst; omega
  omega
theorem yis_sta {S Y : Int} (h : YIs S Y) (s1 : -377705116800 ≤ S) (s2 : S ≤ 253402300799) : staI Y ≤ S ∧ S < staI (Y + 1) := by
  obtain ⟨_, _, m, d, hm, hd⟩ := yIs_in h s1 s2
  obtain ⟨e, h0, h1⟩ := dn_in hm
  have hd1 : 1 ≤ d := by unfold mayB at hm; simp at hm; exact hm.1
  rw [sta_yst, sta_yst, yst_succ]
  rw [e] at hd
  generalize yst Y = a at *
  generalize cmN Y (m - 1).toNat = c at *
  generalize ydI Y = n at *
  omega
theorem yis_mono {S T Y Z : Int} (h : YIs S Y) (h2 : YIs T Z) (s1 : -377705116800 ≤ S) (st : S ≤ T) (t2 : T ≤ 253402300799) : Y ≤ Z := by
  have a := yis_sta h s1 (by omega)
  have b := yis_sta h2 (by omega) t2
  by_cases hc : Z + 1 ≤ Y
  · have := yst_mono hc
    rw [sta_yst] at a b
    rw [sta_yst] at a b
    omega
  · omega
theorem cm_ge (y : Int) (k : Nat) (h : k ≤ 12) : 28 * (k : Int) ≤ cmN y k := by
  induction k with
  | zero => unfold cmN; decide
  | succ k ih =>
    have a := ih (by omega)
    have b := mdI_ge y ((k : Int) + 1) (by omega)
    rw [cm_succ]
    omega
theorem yrN_bd {k n w y m : Int} (h : yrE k n w y m = 0) : yst y + cmN y (m - 1).toNat - 6 ≤ yrN k n w y m ∧ yrN k n w y m ≤ yst y + cmN y (m - 1).toNat + 36 := by
  by_cases h1 : mayD k n w = false ∨ m < 1 ∨ 12 < m
  · have := (yr_bad (n := n) (y := y) h1).1; omega
  · have hm := may_parts (k := k) (n := n) (w := w) (by cases e : mayD k n w; exact absurd (Or.inl e) h1; rfl)
    have e : dnI y m 1 = yst y + cmN y (m - 1).toNat := by unfold dnI; omega
    have hM := mdI_ge y m (by omega)
    have hM2 := mdI_le y m
    unfold yrN upTo downTo
    rw [e]
    generalize yst y + cmN y (m - 1).toNat = N at *
    generalize mdI y m = M at *
    repeat' split
    all_goals omega
theorem yrN_lt {k n w y z m : Int} (h : yrE k n w y m = 0) (h2 : yrE k n w z m = 0) (hy : y < z) : yrN k n w y m + 200 < yrN k n w z m := by
  have hm : 1 ≤ m ∧ m ≤ 12 := by
    by_cases h1 : mayD k n w = false ∨ m < 1 ∨ 12 < m
    · have := (yr_bad (n := n) (y := y) h1).1; omega
    · omega
  have a := yrN_bd h
  have b := yrN_bd h2
  have c := yst_365 hy
  have d := cm_ge z (m - 1).toNat (by omega)
  have e := (cmN_bd y (m - 1).toNat).2
  omega
def momB (YF : Int → Int) (l : Lin) (y s : Int) : Prop := atV l (YF l.s) y = (s, true) ∧ -377705116800 ≤ s ∧ s ≤ 253402300799
theorem mom_at {YF : Int → Int} {l : Lin} {y s : Int} (hk : l.k = 1) (h : momB YF l y s) : s = l.s ∧ y = YF l.s := by
  obtain ⟨h, _, _⟩ := h
  unfold atV at h
  rw [if_pos hk] at h
  split at h
  · rename_i h2
    exact ⟨by simpa using h.symm, h2.2.symm⟩
  · simp at h
theorem mom_rule {YF : Int → Int} {l : Lin} {y s : Int} (hk : l.k = 2) (h : momB YF l y s) : l.f ≤ y ∧ y ≤ l.t ∧ yrE l.dk l.dn l.dw y l.m = 0 ∧ s = yrN l.dk l.dn l.dw y l.m * 86400 + l.ti - l.rd := by
  obtain ⟨h, _, _⟩ := h
  unfold atV at h
  rw [if_neg (by omega)] at h
  split at h
  · simp at h
  · rename_i h2
    split at h
    · simp at h
    · rename_i h3
      have h4 : yrE l.dk l.dn l.dw y l.m = 0 := Classical.not_not.1 h3
      have e : yrV l.dk l.dn l.dw y l.m = yrN l.dk l.dn l.dw y l.m := by unfold yrV; exact if_pos h4
      rw [e] at h
      refine ⟨by omega, by omega, h4, ?_⟩
      have := congrArg Prod.fst h
      exact this.symm
theorem mom_same {YF : Int → Int} {l : Lin} {y s t : Int} (h : momB YF l y s) (h2 : momB YF l y t) : s = t := by
  have := h.1.symm.trans h2.1
  simpa using this
theorem mom_lt {YF : Int → Int} {l : Lin} (hl : OkL l) {y z s t : Int} (h : momB YF l y s) (h2 : momB YF l z t) (hy : y < z) : s < t := by
  rcases hl.1 with ⟨hk, _⟩ | ⟨hk, _⟩
  · have a := (mom_at hk h).2
    have b := (mom_at hk h2).2
    omega
  · obtain ⟨_, _, e1, s1⟩ := mom_rule hk h
    obtain ⟨_, _, e2, s2⟩ := mom_rule hk h2
    have := yrN_lt e1 e2 hy
    omega
theorem mom_le {YF : Int → Int} {l : Lin} (hl : OkL l) {y z s t : Int} (h : momB YF l y s) (h2 : momB YF l z t) (hy : y ≤ z) : s ≤ t := by
  by_cases e : y = z
  · subst e; rw [mom_same h h2]; exact Int.le_refl _
  · have := mom_lt hl h h2 (by omega); omega
theorem mom_year {YF : Int → Int} (hYF : ∀ S, YIs S (YF S)) {l : Lin} (hl : OkL l) {y s x : Int} (h : momB YF l y s) (hx : x ≤ 253402300799) (hs : s ≤ x) : y ≤ YF x + 1 := by
  rcases hl.1 with ⟨hk, _⟩ | ⟨hk, _, _, _, _, m1, m2, _, t0, t1, r0, r1⟩
  · obtain ⟨a, b⟩ := mom_at hk h
    have := yis_mono (hYF l.s) (hYF x) (by have := h.2.1; omega) (by omega) hx
    omega
  · obtain ⟨_, _, e1, s1⟩ := mom_rule hk h
    have hb := (yrN_bd e1).1
    have hc := (cmN_bd y (l.m - 1).toNat).1
    have hq := (yis_sta (hYF x) (by have := h.2.1; omega) hx).2
    by_cases hc2 : YF x + 1 < y
    · have := yst_365 hc2
      rw [sta_yst] at hq
      generalize yst (YF x + 1) = a at *
      generalize yst y = b at *
      generalize yrN l.dk l.dn l.dw y l.m = N at *
      generalize cmN y (l.m - 1).toNat = c at *
      omega
    · omega
def seekN (p : Int → Bool) (y : Int) : Nat → Option Int
  | 0 => none
  | n + 1 => if p y = true then some y else seekN p (y - 1) n
theorem seek_hit {p : Int → Bool} {y : Int} {n : Nat} (h : p y = true) : seekN p y (n + 1) = some y := if_pos h
theorem seek_miss {p : Int → Bool} {y : Int} {n : Nat} (h : p y = false) : seekN p y (n + 1) = seekN p (y - 1) n := if_neg (by rw [h]; decide)
theorem seek_some {p : Int → Bool} : ∀ {n : Nat} {y a : Int}, seekN p y n = some a → p a = true ∧ a ≤ y ∧ y - n < a ∧ ∀ b, a < b → b ≤ y → p b = false := by
  intro n
  induction n with
  | zero => intro y a h; cases h
  | succ n ih =>
    intro y a h
    cases hp : p y
    · rw [seek_miss hp] at h
      obtain ⟨h1, h2, h3, h4⟩ := ih h
      refine ⟨h1, by omega, by omega, fun b hb hby => ?_⟩
      by_cases e : b = y
      · rw [e]; exact hp
      · exact h4 b hb (by omega)
    · rw [seek_hit hp] at h
      obtain rfl := Option.some.inj h
      exact ⟨hp, by omega, by omega, fun b h1 h2 => by omega⟩
theorem seek_none {p : Int → Bool} : ∀ {n : Nat} {y : Int}, seekN p y n = none → ∀ b, y - n < b → b ≤ y → p b = false := by
  intro n
  induction n with
  | zero => intro y _ b h1 h2; omega
  | succ n ih =>
    intro y h b h1 h2
    cases hp : p y
    · rw [seek_miss hp] at h
      by_cases e : b = y
      · rw [e]; exact hp
      · exact ih h b (by omega) (by omega)
    · rw [seek_hit hp] at h; cases h
def fitM (YF : Int → Int) (l : Lin) (x y : Int) : Bool := (atV l (YF l.s) y).2 && decide (-377705116800 ≤ (atV l (YF l.s) y).1) && decide ((atV l (YF l.s) y).1 ≤ x)
theorem fit_iff {YF : Int → Int} {l : Lin} {x y : Int} (hx : x ≤ 253402300799) : fitM YF l x y = true ↔ ∃ s, momB YF l y s ∧ s ≤ x := by
  unfold fitM momB
  generalize atV l (YF l.s) y = a
  obtain ⟨s, b⟩ := a
  constructor
  · intro h
    simp only [Bool.and_eq_true, decide_eq_true_eq] at h
    exact ⟨s, ⟨by rw [h.1.1], h.1.2, by omega⟩, h.2⟩
  · rintro ⟨t, ⟨e, h1, h2⟩, h3⟩
    obtain ⟨rfl, rfl⟩ := Prod.mk.inj e
    simp only [Bool.and_eq_true, decide_eq_true_eq]
    exact ⟨⟨trivial, h1⟩, h3⟩
def hiY (YF : Int → Int) (l : Lin) (x : Int) : Int := if l.k = 1 then YF l.s else min (YF x + 1) (max l.t l.f)
def cnY (YF : Int → Int) (l : Lin) (x : Int) : Nat := if l.k = 1 then 1 else (hiY YF l x - l.f + 1).toNat
def lineA (YF : Int → Int) (l : Lin) (x : Int) : Option Int := (seekN (fitM YF l x) (hiY YF l x) (cnY YF l x)).map (fun y => (atV l (YF l.s) y).1)
theorem hi_mom {YF : Int → Int} (hYF : ∀ S, YIs S (YF S)) {l : Lin} (hl : OkL l) {y s x : Int} (h : momB YF l y s) (hx : x ≤ 253402300799) (hs : s ≤ x) : hiY YF l x - cnY YF l x < y ∧ y ≤ hiY YF l x := by
  have hy := mom_year hYF hl h hx hs
  rcases hl.1 with ⟨hk, _⟩ | ⟨hk, _⟩
  · have e := (mom_at hk h).2
    unfold cnY hiY
    rw [if_pos hk, if_pos hk]
    omega
  · obtain ⟨a, b, _⟩ := mom_rule hk h
    unfold cnY hiY
    rw [if_neg (by omega), if_neg (by omega)]
    omega
theorem lineA_some {YF : Int → Int} (hYF : ∀ S, YIs S (YF S)) {l : Lin} (hl : OkL l) {x a : Int} (hx : x ≤ 253402300799) (h : lineA YF l x = some a) : (∃ y, momB YF l y a) ∧ a ≤ x ∧ ∀ z t, momB YF l z t → t ≤ x → t ≤ a := by
  unfold lineA at h
  obtain ⟨y, hy, rfl⟩ := Option.map_eq_some_iff.1 h
  obtain ⟨h1, h2, h3, h4⟩ := seek_some hy
  obtain ⟨s, hm, hs⟩ := (fit_iff hx).1 h1
  have e : (atV l (YF l.s) y).1 = s := by rw [hm.1]
  rw [e]
  refine ⟨⟨y, hm⟩, hs, fun z t hz ht => ?_⟩
  obtain ⟨_, hb⟩ := hi_mom hYF hl hz hx ht
  by_cases hzy : y < z
  · have := h4 z hzy hb
    rw [(fit_iff hx).2 ⟨t, hz, ht⟩] at this; cases this
  · exact mom_le hl hz hm (by omega)
theorem lineA_none {YF : Int → Int} (hYF : ∀ S, YIs S (YF S)) {l : Lin} (hl : OkL l) {x : Int} (hx : x ≤ 253402300799) (h : lineA YF l x = none) : ∀ z t, momB YF l z t → ¬ t ≤ x := by
  unfold lineA at h
  have h1 := Option.map_eq_none_iff.1 h
  intro z t hz ht
  obtain ⟨ha, hb⟩ := hi_mom hYF hl hz hx ht
  have := seek_none h1 z ha hb
  rw [(fit_iff hx).2 ⟨t, hz, ht⟩] at this; cases this
def stepA (st : Int × Int) (i : Nat) : Option Int → Int × Int
  | none => st
  | some a => if st.2 < 0 ∨ st.1 ≤ a then (a, (i : Int)) else st
theorem stepA_some {st : Int × Int} {i : Nat} {a : Int} : stepA st i (some a) = if st.2 < 0 ∨ st.1 ≤ a then (a, (i : Int)) else st := rfl
theorem stepA_none {st : Int × Int} {i : Nat} : stepA st i none = st := rfl
def ahS (f : Nat → Option Int) : Nat → Int × Int
  | 0 => (0, -1)
  | k + 1 => stepA (ahS f k) k (f k)
theorem ahS_spec (f : Nat → Option Int) (n : Nat) : (ahS f n = (0, -1) ∧ ∀ j, j < n → f j = none) ∨ (∃ (i : Nat) (a : Int), i < n ∧ ahS f n = (a, (i : Int)) ∧ f i = some a ∧ ∀ j b, j < n → f j = some b → b < a ∨ (b = a ∧ j ≤ i)) := by
  induction n with
  | zero => exact Or.inl ⟨rfl, fun j h => by omega⟩
  | succ n ih =>
    show (stepA (ahS f n) n (f n) = _ ∧ _) ∨ _
    cases hf : f n with
    | none =>
      rcases ih with ⟨h1, h2⟩ | ⟨i, a, hi, h1, h2, h3⟩
      · refine Or.inl ⟨h1, fun j hj => ?_⟩
        by_cases e : j = n
        · subst e; exact hf
        · exact h2 j (by omega)
      · refine Or.inr ⟨i, a, by omega, by show stepA (ahS f n) n (f n) = _; rw [hf]; exact h1, h2, fun j b hj hb => ?_⟩
        by_cases e : j = n
        · subst e; rw [hf] at hb; cases hb
        · exact h3 j b (by omega) hb
    | some c =>
      refine Or.inr ?_
      rcases ih with ⟨h1, h2⟩ | ⟨i, a, hi, h1, h2, h3⟩
      · refine ⟨n, c, by omega, ?_, hf, fun j b hj hb => ?_⟩
        · show stepA (ahS f n) n (f n) = _
          rw [hf, h1, stepA_some]; exact if_pos (Or.inl (show (-1 : Int) < 0 by decide))
        · by_cases e : j = n
          · subst e; rw [hf] at hb; obtain rfl := Option.some.inj hb; exact Or.inr ⟨rfl, by omega⟩
          · rw [h2 j (by omega)] at hb; cases hb
      · by_cases hc : a ≤ c
        · refine ⟨n, c, by omega, ?_, hf, fun j b hj hb => ?_⟩
          · show stepA (ahS f n) n (f n) = _
            rw [hf, h1, stepA_some]; exact if_pos (Or.inr hc)
          · by_cases e : j = n
            · subst e; rw [hf] at hb; obtain rfl := Option.some.inj hb; exact Or.inr ⟨rfl, by omega⟩
            · rcases h3 j b (by omega) hb with h | ⟨h, _⟩
              · exact Or.inl (by omega)
              · by_cases e2 : b = c
                · exact Or.inr ⟨e2, by omega⟩
                · exact Or.inl (by omega)
        · refine ⟨i, a, by omega, ?_, h2, fun j b hj hb => ?_⟩
          · show stepA (ahS f n) n (f n) = _
            rw [hf, h1, stepA_some]
            refine if_neg ?_
            rintro (h | h)
            · have h4 : (i : Int) < 0 := h
              omega
            · exact hc h
          · by_cases e : j = n
            · subst e; rw [hf] at hb; obtain rfl := Option.some.inj hb; exact Or.inl (by omega)
            · exact h3 j b (by omega) hb
def lnA (YF : Int → Int) (ls : List Lin) (x : Int) (k : Nat) : Option Int := (ls[k]?).bind (fun l => lineA YF l x)
def ahT (YF : Int → Int) (z : Src) (x : Int) : Int × Bool × List UInt8 :=
  if (ahS (lnA YF z.lns x) z.lns.length).2 < 0 then (z.off, z.dst, z.abb) else ((z.lns[(ahS (lnA YF z.lns x) z.lns.length).2.toNat]?).elim (0, false, []) (fun l => (l.off, l.dst, l.abb)))
end Go.Proofs.YtacpcjdiljnlaaaGreatDoor
namespace Go.Proofs.YtacpcjdiljnlaaaGreatDoor
set_option linter.unusedVariables false
set_option linter.unusedSimpArgs false
open Go.ChangeShapes Go.WideShapes Go.ChangeAt Go.RowKit
abbrev Tri := Int × Bool × List UInt8
abbrev Chg := Int × Tri
def triOf (l : Lin) : Tri := (l.off, l.dst, l.abb)
structure IsEv (YF : Int → Int) (ls : List Lin) (low high : Int) (L : List Chg) : Prop where
  rise : (L.map (·.1)).Pairwise (· < ·)
  each : ∀ e ∈ L, low ≤ e.1 ∧ e.1 ≤ high ∧ ∃ (i : Nat) (l : Lin), ls[i]? = some l ∧ (∃ y, momB YF l y e.1) ∧ e.2 = triOf l ∧ ∀ (j : Nat) (m : Lin), i < j → ls[j]? = some m → ∀ y, ¬ momB YF m y e.1
  all : ∀ (i : Nat) (l : Lin) (y s : Int), ls[i]? = some l → momB YF l y s → low ≤ s → s ≤ high → ∃ e ∈ L, e.1 = s
theorem IsEv.lt {YF : Int → Int} {ls : List Lin} {low high : Int} {L : List Chg} (h : IsEv YF ls low high L) {i j : Nat} (hij : i < j) (hj : j < L.length) : (L[i]'(by omega)).1 < L[j].1 := by
  have := List.pairwise_iff_getElem.1 h.rise i j (by simp; omega) (by simpa using hj) hij
  simpa using this
theorem ev_at {YF : Int → Int} (hYF : ∀ S, YIs S (YF S)) {z : Src} (hOk : ∀ l ∈ z.lns, OkL l) {low high : Int} {L : List Chg} (h : IsEv YF z.lns low high L) (h2 : high ≤ 253402300799) {i : Nat} (hi : i < L.length) {x : Int} (hx : L[i].1 ≤ x) (hx2 : x ≤ high) (hx3 : ∀ h : i + 1 < L.length, x < L[i + 1].1) : ahT YF z x = L[i].2 := by
  obtain ⟨e1, e2, p, l, hp, ⟨y, hy⟩, ht, hlast⟩ := h.each L[i] (List.getElem_mem hi)
  have hxm : x ≤ 253402300799 := by omega
  have hmem : ∀ (j : Nat) (m : Lin), z.lns[j]? = some m → OkL m := fun j m hj => hOk m (List.mem_of_getElem? hj)
  -- no moment between
  have hno : ∀ (j : Nat) (m : Lin) (u t : Int), z.lns[j]? = some m → momB YF m u t → t ≤ x → t ≤ L[i].1 := by
    intro j m u t hj hm htx
    by_cases hlt : L[i].1 < t
    · obtain ⟨e, he, het⟩ := h.all j m u t hj hm (by omega) (by omega)
      obtain ⟨q, hq, rfl⟩ := List.mem_iff_getElem.1 he
      have hiq : i < q := by
        rcases Nat.lt_trichotomy i q with h3 | h3 | h3
        · exact h3
        · subst h3; omega
        · have := h.lt h3 hi; omega
      have h4 : i + 1 < L.length := by omega
      have h5 := hx3 h4
      by_cases h6 : i + 1 = q
      · subst h6; omega
      · have := h.lt (show i + 1 < q by omega) hq; omega
    · omega
  have hfp : lnA YF z.lns x p = some L[i].1 := by
    unfold lnA
    rw [hp]
    show lineA YF l x = _
    cases hA : lineA YF l x with
    | none => exact absurd hx (lineA_none hYF (hmem p l hp) hxm hA y _ hy)
    | some a =>
      obtain ⟨⟨u, hu⟩, hax, hmax⟩ := lineA_some hYF (hmem p l hp) hxm hA
      have a1 := hmax y _ hy hx
      have a2 := hno p l u a hp hu hax
      rw [show a = L[i].1 by omega]
  have hpl : p < z.lns.length := (List.getElem?_eq_some_iff.1 hp).1
  rcases ahS_spec (lnA YF z.lns x) z.lns.length with ⟨_, h0⟩ | ⟨q, a, hq, hS, hfq, hmx⟩
  · rw [h0 p hpl] at hfp; cases hfp
  · have hq2 : z.lns[q]? = some z.lns[q] := List.getElem?_eq_getElem hq
    have hfq2 : lineA YF z.lns[q] x = some a := by
      unfold lnA at hfq
      rw [hq2] at hfq
      exact hfq
    obtain ⟨⟨u, hu⟩, hax, _⟩ := lineA_some hYF (hmem q _ hq2) hxm hfq2
    have a2 := hno q _ u a hq2 hu hax
    have hqp : q = p := by
      rcases hmx p _ hpl hfp with h3 | ⟨h3, h4⟩
      · omega
      · by_cases h5 : p < q
        · rw [← h3] at hu
          exact absurd hu (hlast q _ h5 hq2 u)
        · omega
    subst hqp
    unfold ahT
    rw [hS]
    simp only
    rw [if_neg (by omega)]
    rw [show ((q : Int)).toNat = q from Int.toNat_natCast q, hp]
    exact ht.symm
theorem sorted_ext : ∀ {a b : List Int}, a.Pairwise (· < ·) → b.Pairwise (· < ·) → (∀ x, x ∈ a ↔ x ∈ b) → a = b := by
  intro a
  induction a with
  | nil =>
    intro b _ _ h
    cases b with
    | nil => rfl
    | cons y b => exact absurd ((h y).2 (by simp)) (by simp)
  | cons x a ih =>
    intro b ha hb h
    cases b with
    | nil => exact absurd ((h x).1 (by simp)) (by simp)
    | cons y b =>
      rw [List.pairwise_cons] at ha hb
      have hxy : x = y := by
        have h1 := (h x).1 (by simp)
        have h2 := (h y).2 (by simp)
        rcases List.mem_cons.1 h1 with h1 | h1
        · exact h1
        · rcases List.mem_cons.1 h2 with h2 | h2
          · exact h2.symm
          · have := hb.1 x h1; have := ha.1 y h2; omega
      subst hxy
      congr 1
      refine ih ha.2 hb.2 (fun z => ?_)
      have hz := h z
      constructor
      · intro hm
        have := hz.1 (by simp [hm])
        rcases List.mem_cons.1 this with e | e
        · have := ha.1 z hm; omega
        · exact e
      · intro hm
        have := hz.2 (by simp [hm])
        rcases List.mem_cons.1 this with e | e
        · have := hb.1 z hm; omega
        · exact e
theorem IsEv.mem {YF : Int → Int} {ls : List Lin} {low high : Int} {L : List Chg} (h : IsEv YF ls low high L) (x : Int) : x ∈ L.map (·.1) ↔ low ≤ x ∧ x ≤ high ∧ ∃ (i : Nat) (l : Lin) (y : Int), ls[i]? = some l ∧ momB YF l y x := by
  constructor
  · intro hx
    obtain ⟨e, he, rfl⟩ := List.mem_map.1 hx
    obtain ⟨a, b, i, l, hi, ⟨y, hy⟩, _⟩ := h.each e he
    exact ⟨a, b, i, l, y, hi, hy⟩
  · rintro ⟨a, b, i, l, y, hi, hy⟩
    obtain ⟨e, he, rfl⟩ := h.all i l y x hi hy a b
    exact List.mem_map.2 ⟨e, he, rfl⟩
theorem IsEv.uniq {YF : Int → Int} {ls : List Lin} {low high : Int} {L M : List Chg} (h : IsEv YF ls low high L) (k : IsEv YF ls low high M) : L = M := by
  have hs : L.map (·.1) = M.map (·.1) := sorted_ext h.rise k.rise (fun x => by rw [h.mem, k.mem])
  have hlen : L.length = M.length := by simpa using congrArg List.length hs
  apply List.ext_getElem hlen
  intro i h1 h2
  have e1 : L[i].1 = M[i].1 := by
    have := congrArg (fun l => l[i]?) hs
    simpa [h1, h2] using this
  obtain ⟨_, _, p, l, hp, ⟨y, hy⟩, ht, hla⟩ := h.each L[i] (List.getElem_mem h1)
  obtain ⟨_, _, q, m, hq, ⟨u, hu⟩, ht2, hla2⟩ := k.each M[i] (List.getElem_mem h2)
  have hpq : p = q := by
    rcases Nat.lt_trichotomy p q with h3 | h3 | h3
    · exact absurd (e1 ▸ hu) (hla q m h3 hq u)
    · exact h3
    · exact absurd (e1 ▸ hy) (hla2 p l h3 hp y)
  subst hpq
  rw [hp] at hq
  obtain rfl := Option.some.inj hq
  exact Prod.ext e1 (ht.trans ht2.symm)
theorem ev_more {YF : Int → Int} (hYF : ∀ S, YIs S (YF S)) {ls : List Lin} {low high : Int} {L M : List Chg} {n : Lin} (h : IsEv YF ls low high L) (k : IsEv YF (ls ++ [n]) low high M) (h0 : 0 < L.length) (hl : -377705116800 ≤ low) (hh : high ≤ 253402300799) (hk : n.k = 1) (hs : n.s = L[0].1) :
    M.length = L.length ∧ ∃ h1 : 0 < M.length, M[0].1 = L[0].1 ∧ M[0].2 = triOf n := by
  obtain ⟨a, b, p, l, hp, ⟨y, hy⟩, ht, hla⟩ := h.each L[0] (List.getElem_mem h0)
  have hn : momB YF n (YF n.s) n.s := by
    refine ⟨?_, by omega, by omega⟩
    unfold atV
    rw [if_pos hk, if_pos ⟨⟨by omega, by omega⟩, rfl⟩]
  have hlast : (ls ++ [n])[ls.length]? = some n := by simp
  have hold : ∀ (i : Nat) (m : Lin), ls[i]? = some m → (ls ++ [n])[i]? = some m := fun i m hi => by
    rw [List.getElem?_append_left (List.getElem?_eq_some_iff.1 hi).1]; exact hi
  have hsec : M.map (·.1) = L.map (·.1) := by
    refine sorted_ext k.rise h.rise (fun x => ?_)
    rw [k.mem, h.mem]
    constructor
    · rintro ⟨x1, x2, i, m, u, hi, hm⟩
      by_cases hi2 : i < ls.length
      · rw [List.getElem?_append_left hi2] at hi
        exact ⟨x1, x2, i, m, u, hi, hm⟩
      · have hin : (ls ++ [n])[i]? = [n][i - ls.length]? := List.getElem?_append_right (by omega)
        rw [hin] at hi
        have hi3 : i - ls.length = 0 := by
          have := (List.getElem?_eq_some_iff.1 hi).1
          simp at this
          omega
        rw [hi3] at hi
        obtain rfl := Option.some.inj hi
        have := (mom_at hk hm).1
        rw [hs] at this
        exact ⟨x1, x2, p, l, y, hp, by rw [this]; exact hy⟩
    · rintro ⟨x1, x2, i, m, u, hi, hm⟩
      exact ⟨x1, x2, i, m, u, hold i m hi, hm⟩
  have hlen : M.length = L.length := by simpa using congrArg List.length hsec
  refine ⟨hlen, by omega, ?_⟩
  have e1 : (M[0]'(by omega)).1 = L[0].1 := by
    have := congrArg (fun l => l[0]?) hsec
    simpa [h0, show 0 < M.length by omega] using this
  refine ⟨e1, ?_⟩
  obtain ⟨_, _, q, m, hq, _, ht2, hla2⟩ := k.each (M[0]'(by omega)) (List.getElem_mem _)
  have hql : q < (ls ++ [n]).length := (List.getElem?_eq_some_iff.1 hq).1
  have hqn : q = ls.length := by
    simp at hql
    by_cases h3 : q < ls.length
    · refine absurd ?_ (hla2 ls.length n h3 hlast (YF n.s))
      rw [e1, ← hs]; exact hn
    · omega
  subst hqn
  rw [hlast] at hq
  obtain rfl := Option.some.inj hq
  exact ht2
end Go.Proofs.YtacpcjdiljnlaaaGreatDoor
namespace Go.Proofs.YtacpcjdiljnlaaaGreatDoor
set_option linter.unusedVariables false
set_option linter.unusedSimpArgs false
open Go.ChangeShapes Go.WideShapes Go.ChangeAt Go.RowKit
def chgV (e : Chg) : List Value := [.int .i64 e.1, .int .i64 e.2.1, .bool e.2.2.1, .string (bs e.2.2.2)]
def chgVs (L : List Chg) : List Value := L.flatMap chgV
theorem chgVs_at : ∀ (T : List Chg) (k : Nat) (hk : k < T.length) (j : Nat) (hj : j < 4), (chgVs T)[k * 4 + j]? = (chgV T[k])[j]? := by
  intro T
  induction T with
  | nil => intro k hk; simp at hk
  | cons x T ih =>
    intro k hk j hj
    have hl : (chgV x).length = 4 := rfl
    unfold chgVs at *
    rw [List.flatMap_cons]
    cases k with
    | zero => rw [List.getElem?_append_left (by omega)]; simp
    | succ k =>
      rw [List.getElem?_append_right (by omega), hl, show (k + 1) * 4 + j - 4 = k * 4 + j by omega, ih k (by simpa using hk) j hj]
      simp
theorem Rd.chg {w : World} {A : Option Addr} {T : List Chg} (h : Rd w A (chgVs T)) {k : Nat} (hk : k < T.length) :
    ∃ b o, A = some ⟨b, o, none⟩ ∧ b < w.heap.size ∧ ∀ i (hi : i < T.length), w.cell? ⟨b, o + i * 4, none⟩ = some (.int .i64 T[i].1) ∧ w.cell? ⟨b, o + i * 4 + 1, none⟩ = some (.int .i64 T[i].2.1) ∧ w.cell? ⟨b, o + i * 4 + 2, none⟩ = some (.bool T[i].2.2.1) ∧ w.cell? ⟨b, o + i * 4 + 3, none⟩ = some (.string (bs T[i].2.2.2)) := by
  have h0 := chgVs_at T k hk 0 (by decide)
  obtain ⟨b, o, hA, hb, _⟩ := h _ _ h0
  refine ⟨b, o, hA, hb, fun i hi => ?_⟩
  have key : ∀ j (hj : j < 4) u, (chgV T[i])[j]? = some u → w.cell? ⟨b, o + i * 4 + j, none⟩ = some u := by
    intro j hj u hu
    have := h.at_ hA ((chgVs_at T i hi j hj).trans hu)
    rwa [← Nat.add_assoc] at this
  exact ⟨key 0 (by decide) _ rfl, key 1 (by decide) _ rfl, key 2 (by decide) _ rfl, key 3 (by decide) _ rfl⟩
def RetChg (P : List Chg → Prop) (E : Int) (w : World) (r : Ending) (w' : World) : Prop :=
  ∃ (L : List Chg) (A : Option Addr) (c : Nat), r = .returned (.tuple #[.slice A L.length c, .int .i64 E]) ∧ Rd w' A (chgVs L) ∧ P L ∧ L.length ≤ 1000000000000 ∧ Below w.heap.size w w'
noncomputable def evE (z : Src) (f t : Int) : Int := if ckU z ≠ 0 then (if ckU z = 8 ∧ t < f then 5 else ckU z) else if t < f then 5 else if f < -9999 ∨ 9999 < t then 8 else 0
noncomputable def zuE (z : Src) (x : Int) : Int := if ckU z ≠ 0 then ckU z else if x < -377705116800 ∨ 253402300799 < x then 8 else 0
noncomputable def zuT (YF : Int → Int) (z : Src) (x : Int) : Tri := if zuE z x ≠ 0 then (0, false, []) else ahT YF z x
noncomputable def lastU (YF : Int → Int) (z : Src) : Int := if ckU z ≠ 0 then 0 else if z.lns.length = 0 then -9999 else min (lstY YF z.lns + 1) 9999
def EvP (YF : Int → Int) (z : Src) (f t : Int) (L : List Chg) : Prop := if evE z f t = 0 then IsEv YF z.lns (staI f) (endI t) L else L = []
def alnL : List Chg → Tri → List Chg
  | [], _ => []
  | e :: l, was => if e.2 = was then alnL l e.2 else e :: alnL l e.2
def wasT (YF : Int → Int) (z : Src) (f : Int) : Tri := if -377705116800 < staI f then ahT YF z (staI f - 1) else (z.off, z.dst, z.abb)
def ChP (YF : Int → Int) (z : Src) (f t : Int) (M : List Chg) : Prop := ∃ L, EvP YF z f t L ∧ M = alnL L (wasT YF z f)
theorem endI_max {y : Int} (h : y ≤ 9999) : endI y ≤ 253402300799 := by
  unfold endI
  split
  · omega
  · have := yst_mono (a := y + 1) (b := 9999) (by omega)
    rw [sta_yst]
    have e : yst 9999 ≤ 2932532 := by unfold yst; decide
    omega
theorem staI_min {y : Int} (h : -9999 ≤ y) : -377705116800 ≤ staI y := by
  have := yst_mono h
  rw [yst_bounds.1] at this
  rw [sta_yst]
  omega
end Go.Proofs.YtacpcjdiljnlaaaGreatDoor
namespace Go.Proofs.YtacpcjdiljnlaaaGreatDoor
set_option linter.unusedVariables false
set_option linter.unusedSimpArgs false
open Go.ChangeShapes Go.WideShapes Go.ChangeAt Go.RowKit
theorem mom_of {YF : Int → Int} {l : Lin} {y s : Int} (hk : l.k = 2) (h1 : l.f ≤ y) (h2 : y ≤ l.t) (h3 : yrE l.dk l.dn l.dw y l.m = 0) (h4 : yrN l.dk l.dn l.dw y l.m * 86400 + l.ti - l.rd = s) (s1 : -377705116800 ≤ s) (s2 : s ≤ 253402300799) : momB YF l y s := by
  refine ⟨?_, s1, s2⟩
  unfold atV
  rw [if_neg (by omega), if_neg (by omega), if_neg (fun k => k h3)]
  have e : yrV l.dk l.dn l.dw y l.m = yrN l.dk l.dn l.dw y l.m := by unfold yrV; exact if_pos h3
  rw [e, h4]
theorem mom_pin {YF : Int → Int} {l : Lin} (hl : OkL l) {y a b c low high : Int} (A : momB YF l (y - 1) a) (B : momB YF l y b) (C : momB YF l (y + 1) c) (h1 : a < low) (h2 : high < c) {z s : Int} (h : momB YF l z s) (l1 : low ≤ s) (l2 : s ≤ high) : s = b := by
  rcases Int.lt_trichotomy z y with h3 | h3 | h3
  · have := mom_le hl h A (by omega); omega
  · subst h3; exact mom_same h B
  · have := mom_le hl C h (by omega); omega
theorem two_ev {YF : Int → Int} {m o : Lin} (hm : OkL m) (ho : OkL o) {y m0 m1 m2 o0 o1 o2 low high : Int} (M0 : momB YF m (y - 1) m0) (M1 : momB YF m y m1) (M2 : momB YF m (y + 1) m2) (O0 : momB YF o (y - 1) o0) (O1 : momB YF o y o1) (O2 : momB YF o (y + 1) o2)
    (h1 : m0 < low) (h2 : o0 < low) (h3 : low ≤ m1) (h4 : m1 < o1) (h5 : o1 ≤ high) (h6 : high < m2) (h7 : high < o2) : IsEv YF [m, o] low high [(m1, triOf m), (o1, triOf o)] := by
  refine ⟨by simp; exact h4, fun e he => ?_, fun i l z s hi hz l1 l2 => ?_⟩
  · rcases List.mem_cons.1 he with rfl | he
    · refine ⟨h3, by omega, 0, m, rfl, ⟨y, M1⟩, rfl, fun j n hj hn z hz => ?_⟩
      match j, hj, hn with
      | 1, _, hn =>
        obtain rfl := Option.some.inj hn
        have := mom_pin ho O0 O1 O2 h2 h7 hz h3 (by omega)
        simp at this
        omega
    · rw [List.mem_singleton.1 he]
      exact ⟨by show low ≤ o1; omega, h5, 1, o, rfl, ⟨y, O1⟩, rfl, fun j n hj hn z hz => by
        match j, hj, hn with
        | j + 2, _, hn => simp at hn⟩
  · match i, hi with
    | 0, hi =>
      obtain rfl := Option.some.inj hi
      exact ⟨_, List.mem_cons_self, (mom_pin hm M0 M1 M2 h1 h6 hz l1 l2).symm⟩
    | 1, hi =>
      obtain rfl := Option.some.inj hi
      exact ⟨_, List.mem_cons_of_mem _ List.mem_cons_self, (mom_pin ho O0 O1 O2 h2 h7 hz l1 l2).symm⟩
    | j + 2, hi => simp at hi
def marZ : Lin := ⟨2, 0, 1996, 1048576, 3, 1, 0, 7, 3600, 0, 7200, true, [67, 69, 83, 84]⟩
def octZ : Lin := ⟨2, 0, 1996, 1048576, 10, 1, 0, 7, 3600, 0, 3600, false, [67, 69, 84]⟩
theorem land_lns : landZ.lns = [marZ, octZ] := rfl
theorem mar_ok : OkL marZ := land_ok.2.2.2.2.2 _ (by rw [land_lns]; simp)
theorem oct_ok : OkL octZ := land_ok.2.2.2.2.2 _ (by rw [land_lns]; simp)
theorem land_num : (yrE 1 0 7 2022 3 = 0 ∧ yrE 1 0 7 2022 10 = 0 ∧ yrE 1 0 7 2023 3 = 0 ∧ yrE 1 0 7 2023 10 = 0 ∧ yrE 1 0 7 2024 3 = 0 ∧ yrE 1 0 7 2024 10 = 0 ∧ yrE 1 0 7 2025 3 = 0 ∧ yrE 1 0 7 2025 10 = 0) ∧
    (yrN 1 0 7 2022 3 * 86400 + 3600 - 0 = 1648342800 ∧ yrN 1 0 7 2022 10 * 86400 + 3600 - 0 = 1667091600 ∧ yrN 1 0 7 2023 3 * 86400 + 3600 - 0 = 1679792400 ∧ yrN 1 0 7 2023 10 * 86400 + 3600 - 0 = 1698541200 ∧
      yrN 1 0 7 2024 3 * 86400 + 3600 - 0 = 1711846800 ∧ yrN 1 0 7 2024 10 * 86400 + 3600 - 0 = 1729990800 ∧ yrN 1 0 7 2025 3 * 86400 + 3600 - 0 = 1743296400 ∧ yrN 1 0 7 2025 10 * 86400 + 3600 - 0 = 1761440400) ∧
    (staI 2023 = 1672531200 ∧ endI 2023 = 1704067199 ∧ staI 2024 = 1704067200 ∧ endI 2024 = 1735689599) := by decide +kernel
theorem land_2023 (YF : Int → Int) : IsEv YF landZ.lns (staI 2023) (endI 2023) [(1679792400, triOf marZ), (1698541200, triOf octZ)] := by
  obtain ⟨⟨e1, e2, e3, e4, e5, e6, _, _⟩, ⟨n1, n2, n3, n4, n5, n6, _, _⟩, s1, s2, _, _⟩ := land_num
  rw [land_lns, s1, s2]
  exact two_ev (y := 2023) mar_ok oct_ok (mom_of rfl (by decide) (by decide) e1 n1 (by decide) (by decide)) (mom_of rfl (by decide) (by decide) e3 n3 (by decide) (by decide)) (mom_of rfl (by decide) (by decide) e5 n5 (by decide) (by decide)) (mom_of rfl (by decide) (by decide) e2 n2 (by decide) (by decide)) (mom_of rfl (by decide) (by decide) e4 n4 (by decide) (by decide)) (mom_of rfl (by decide) (by decide) e6 n6 (by decide) (by decide))
    (by decide) (by decide) (by decide) (by decide) (by decide) (by decide) (by decide)
theorem land_2024 (YF : Int → Int) : IsEv YF landZ.lns (staI 2024) (endI 2024) [(1711846800, triOf marZ), (1729990800, triOf octZ)] := by
  obtain ⟨⟨_, _, e1, e2, e3, e4, e5, e6⟩, ⟨_, _, n1, n2, n3, n4, n5, n6⟩, _, _, s1, s2⟩ := land_num
  rw [land_lns, s1, s2]
  exact two_ev (y := 2024) mar_ok oct_ok (mom_of rfl (by decide) (by decide) e1 n1 (by decide) (by decide)) (mom_of rfl (by decide) (by decide) e3 n3 (by decide) (by decide)) (mom_of rfl (by decide) (by decide) e5 n5 (by decide) (by decide)) (mom_of rfl (by decide) (by decide) e2 n2 (by decide) (by decide)) (mom_of rfl (by decide) (by decide) e4 n4 (by decide) (by decide)) (mom_of rfl (by decide) (by decide) e6 n6 (by decide) (by decide))
    (by decide) (by decide) (by decide) (by decide) (by decide) (by decide) (by decide)
theorem land_cu : ckU landZ = 0 := (ckU_zero landZ).2 land_ok
theorem land_was {YF : Int → Int} (hYF : ∀ S, YIs S (YF S)) : wasT YF landZ 2024 = triOf octZ := by
  have s1 : staI 2024 = 1704067200 := land_num.2.2.2.2.1
  have s2 : endI 2023 = 1704067199 := land_num.2.2.2.1
  unfold wasT
  rw [s1, if_pos (by decide)]
  exact ev_at hYF land_ok.2.2.2.2.2 (land_2023 YF) (by rw [s2]; decide) (i := 1) (by decide) (by decide) (by rw [s2]; decide) (fun h => absurd h (by decide))
theorem land_at {YF : Int → Int} (hYF : ∀ S, YIs S (YF S)) : zuT YF landZ 1711846800 = triOf marZ ∧ zuE landZ 1711846800 = 0 := by
  have s2 : endI 2024 = 1735689599 := land_num.2.2.2.2.2
  have e : zuE landZ 1711846800 = 0 := by unfold zuE; rw [if_neg (fun k => k land_cu), if_neg (by decide)]
  refine ⟨?_, e⟩
  unfold zuT
  rw [if_neg (fun k => k e)]
  exact ev_at hYF land_ok.2.2.2.2.2 (land_2024 YF) (by rw [s2]; decide) (i := 0) (by decide) (by decide) (by rw [s2]; decide) (fun _ => by show (1711846800 : Int) < 1729990800; decide)
theorem land_ch {YF : Int → Int} (hYF : ∀ S, YIs S (YF S)) {M : List Chg} (h : ChP YF landZ 2024 2024 M) : M = [(1711846800, triOf marZ), (1729990800, triOf octZ)] := by
  obtain ⟨L, hL, rfl⟩ := h
  have e : evE landZ 2024 2024 = 0 := by unfold evE; rw [if_neg (fun k => k land_cu), if_neg (by decide), if_neg (by decide)]
  unfold EvP at hL
  rw [if_pos e] at hL
  rw [hL.uniq (land_2024 YF), land_was hYF]
  have d1 : triOf marZ ≠ triOf octZ := by decide
  rw [alnL, if_neg d1, alnL, if_neg (fun h => d1 h.symm), alnL]
theorem land_last {YF : Int → Int} : lastU YF landZ = 1997 := by
  unfold lastU
  rw [if_neg (fun k => k land_cu)]
  rfl
end Go.Proofs.YtacpcjdiljnlaaaGreatDoor
