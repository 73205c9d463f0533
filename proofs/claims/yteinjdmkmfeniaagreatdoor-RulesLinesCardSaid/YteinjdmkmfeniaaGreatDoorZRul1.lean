/- Several texts in one: RulA, RulB, RulC, RulD, RulE, RulF, RulG, RulH, RulI, RulJ, RulM, RulK, RulZ, RulT, RulTb, RulV, RulW, RulX, RulY. -/
import Derived.Test.YteinjdmkmfeniaaGreatDoorZLex1
import Derived.Test.YteinjdmkmfeniaaGreatDoorZWrd1
import Derived.Test.YteinjdmkmfeniaaGreatDoorZRowS1
import Derived.Test.YteinjdmkmfeniaaGreatDoorZYr1
import Derived.Test.YteinjdmkmfeniaaGreatDoorZInst1
import Derived.Test.YteinjdmkmfeniaaGreatDoorZCt1
import Derived.Test.YteinjdmkmfeniaaGreatDoorZKx1
import Derived.Test.YteinjdmkmfeniaaGreatDoorZOwnA1
import Derived.Deep.RegionLaw
import Derived.Deep.AppendLies
namespace Go.Proofs.YteinjdmkmfeniaaGreatDoor
set_option linter.unusedVariables false
set_option linter.unusedSimpArgs false
open Go.ChangeShapes Go.WideShapes Go.ChangeAt Go.RowKit
theorem bs_empty : bs [] = ⟨#[]⟩ := by unfold bs; rfl
def moS (k : Int) : List UInt8 :=
  if k = 1 then [106, 97, 110] else if k = 2 then [102, 101, 98] else if k = 3 then [109, 97, 114] else if k = 4 then [97, 112, 114] else if k = 5 then [109, 97, 121] else if k = 6 then [106, 117, 110] else if k = 7 then [106, 117, 108] else if k = 8 then [97, 117, 103] else if k = 9 then [115, 101, 112] else if k = 10 then [111, 99, 116] else if k = 11 then [110, 111, 118] else if k = 12 then [100, 101, 99] else []
@[irreducible] def monI (t : List UInt8) : Int :=
  if t = moS 1 then 1 else if t = moS 2 then 2 else if t = moS 3 then 3 else if t = moS 4 then 4 else if t = moS 5 then 5 else if t = moS 6 then 6 else if t = moS 7 then 7 else if t = moS 8 then 8 else if t = moS 9 then 9 else if t = moS 10 then 10 else if t = moS 11 then 11 else if t = moS 12 then 12 else 0
theorem mon_cases (k : Int) (h1 : 1 ≤ k) (h2 : k ≤ 12) : k = 1 ∨ k = 2 ∨ k = 3 ∨ k = 4 ∨ k = 5 ∨ k = 6 ∨ k = 7 ∨ k = 8 ∨ k = 9 ∨ k = 10 ∨ k = 11 ∨ k = 12 := by omega
theorem mon_moS (k : Int) (h1 : 1 ≤ k) (h2 : k ≤ 12) : monI (moS k) = k := by
  rcases mon_cases k h1 h2 with rfl | rfl | rfl | rfl | rfl | rfl | rfl | rfl | rfl | rfl | rfl | rfl <;> (unfold monI; rfl)
theorem moS_len (k : Int) (h1 : 1 ≤ k) (h2 : k ≤ 12) : (moS k).length = 3 := by
  rcases mon_cases k h1 h2 with rfl | rfl | rfl | rfl | rfl | rfl | rfl | rfl | rfl | rfl | rfl | rfl <;> rfl
theorem mon_none {t : List UInt8} (h : ∀ j : Nat, 1 ≤ j → j ≤ 12 → t ≠ moS (j : Int)) : monI t = 0 := by
  unfold monI
  rw [if_neg (show ¬ t = moS 1 from h 1 (by decide) (by decide)), if_neg (show ¬ t = moS 2 from h 2 (by decide) (by decide)), if_neg (show ¬ t = moS 3 from h 3 (by decide) (by decide)), if_neg (show ¬ t = moS 4 from h 4 (by decide) (by decide)), if_neg (show ¬ t = moS 5 from h 5 (by decide) (by decide)), if_neg (show ¬ t = moS 6 from h 6 (by decide) (by decide)), if_neg (show ¬ t = moS 7 from h 7 (by decide) (by decide)), if_neg (show ¬ t = moS 8 from h 8 (by decide) (by decide)), if_neg (show ¬ t = moS 9 from h 9 (by decide) (by decide)), if_neg (show ¬ t = moS 10 from h 10 (by decide) (by decide)), if_neg (show ¬ t = moS 11 from h 11 (by decide) (by decide)), if_neg (show ¬ t = moS 12 from h 12 (by decide) (by decide))]
theorem mon_some {t : List UInt8} (h : monI t ≠ 0) : t = moS (monI t) ∧ 1 ≤ monI t ∧ monI t ≤ 12 := by
  by_cases h1 : t = moS 1
  · subst h1; rw [mon_moS _ (by decide) (by decide)]; exact ⟨rfl, by decide, by decide⟩
  by_cases h2 : t = moS 2
  · subst h2; rw [mon_moS _ (by decide) (by decide)]; exact ⟨rfl, by decide, by decide⟩
  by_cases h3 : t = moS 3
  · subst h3; rw [mon_moS _ (by decide) (by decide)]; exact ⟨rfl, by decide, by decide⟩
  by_cases h4 : t = moS 4
  · subst h4; rw [mon_moS _ (by decide) (by decide)]; exact ⟨rfl, by decide, by decide⟩
  by_cases h5 : t = moS 5
  · subst h5; rw [mon_moS _ (by decide) (by decide)]; exact ⟨rfl, by decide, by decide⟩
  by_cases h6 : t = moS 6
  · subst h6; rw [mon_moS _ (by decide) (by decide)]; exact ⟨rfl, by decide, by decide⟩
  by_cases h7 : t = moS 7
  · subst h7; rw [mon_moS _ (by decide) (by decide)]; exact ⟨rfl, by decide, by decide⟩
  by_cases h8 : t = moS 8
  · subst h8; rw [mon_moS _ (by decide) (by decide)]; exact ⟨rfl, by decide, by decide⟩
  by_cases h9 : t = moS 9
  · subst h9; rw [mon_moS _ (by decide) (by decide)]; exact ⟨rfl, by decide, by decide⟩
  by_cases h10 : t = moS 10
  · subst h10; rw [mon_moS _ (by decide) (by decide)]; exact ⟨rfl, by decide, by decide⟩
  by_cases h11 : t = moS 11
  · subst h11; rw [mon_moS _ (by decide) (by decide)]; exact ⟨rfl, by decide, by decide⟩
  by_cases h12 : t = moS 12
  · subst h12; rw [mon_moS _ (by decide) (by decide)]; exact ⟨rfl, by decide, by decide⟩
  refine absurd (mon_none fun j j1 j2 => ?_) h
  rcases (by omega : j = 1 ∨ j = 2 ∨ j = 3 ∨ j = 4 ∨ j = 5 ∨ j = 6 ∨ j = 7 ∨ j = 8 ∨ j = 9 ∨ j = 10 ∨ j = 11 ∨ j = 12) with rfl | rfl | rfl | rfl | rfl | rfl | rfl | rfl | rfl | rfl | rfl | rfl
  · exact h1
  · exact h2
  · exact h3
  · exact h4
  · exact h5
  · exact h6
  · exact h7
  · exact h8
  · exact h9
  · exact h10
  · exact h11
  · exact h12
def onlyL : List UInt8 := [111, 110, 108, 121]
def onL : List UInt8 := [111, 110]
@[irreducible] def yrsR (a b : List UInt8) : Int × Int × Int :=
  if numE a (-9999) 9999 ≠ 0 then (0, 0, numE a (-9999) 9999)
  else if b = onlyL then (numV a (-9999) 9999, numV a (-9999) 9999, 0)
  else if b = onL then (numV a (-9999) 9999, 1048576, 0)
  else (numV a (-9999) 9999, numV b (-9999) 9999, numE b (-9999) 9999)
end Go.Proofs.YteinjdmkmfeniaaGreatDoor
namespace Go.Proofs.YteinjdmkmfeniaaGreatDoor
set_option linter.unusedVariables false
set_option linter.unusedSimpArgs false
open Go.ChangeShapes Go.WideShapes Go.ChangeAt Go.RowKit
theorem Rd.wrd {w : World} {A : Option Addr} {ws : List (List UInt8)} (h : Rd w A (ws.map strV)) {k : Nat} (hk : k < ws.length) :
    ∃ b o, A = some ⟨b, o, none⟩ ∧ b < w.heap.size ∧ ∀ j (hj : j < ws.length), w.cell? ⟨b, o + j, none⟩ = some (.string (bs ws[j])) := by
  obtain ⟨b, o, hA, hb, hc⟩ := h k (strV ws[k]) (by simp [hk])
  refine ⟨b, o, hA, hb, fun j hj => ?_⟩
  exact h.at_ hA (by simp [hj, strV])
def stdL : List UInt8 := [115, 116, 100]
def dstL : List UInt8 := [100, 115, 116]
@[irreducible] def triR (x y z : List UInt8) : Int × Bool × List UInt8 × Int :=
  if offE x ≠ 0 then (0, false, [], offE x) else if y ≠ stdL ∧ y ≠ dstL then (0, false, [], 2) else if abbE z ≠ 0 then (0, false, [], abbE z) else (offV x, y == dstL, z, 0)
theorem tri_off {x y z : List UInt8} (h : offE x ≠ 0) : triR x y z = (0, false, [], offE x) := by unfold triR; exact if_pos h
theorem tri_odd {x y z : List UInt8} (h : ¬ offE x ≠ 0) (h2 : y ≠ stdL ∧ y ≠ dstL) : triR x y z = (0, false, [], 2) := by unfold triR; rw [if_neg h]; exact if_pos h2
theorem tri_abb {x y z : List UInt8} (h : ¬ offE x ≠ 0) (h2 : ¬ (y ≠ stdL ∧ y ≠ dstL)) (h3 : abbE z ≠ 0) : triR x y z = (0, false, [], abbE z) := by unfold triR; rw [if_neg h, if_neg h2]; exact if_pos h3
theorem tri_ok {x y z : List UInt8} (h : ¬ offE x ≠ 0) (h2 : ¬ (y ≠ stdL ∧ y ≠ dstL)) (h3 : ¬ abbE z ≠ 0) : triR x y z = (offV x, y == dstL, z, 0) := by unfold triR; rw [if_neg h, if_neg h2]; exact if_neg h3
end Go.Proofs.YteinjdmkmfeniaaGreatDoor
namespace Go.Proofs.YteinjdmkmfeniaaGreatDoor
set_option linter.unusedVariables false
set_option linter.unusedSimpArgs false
open Go.ChangeShapes Go.WideShapes Go.ChangeAt Go.RowKit
def nbN (k : Nat) : List UInt8 := if h : k < 10 then [dgt (k : Int)] else nbN (k / 10) ++ [dgt ((k % 10 : Nat) : Int)]
decreasing_by omega
theorem nbN_small {k : Nat} (h : k < 10) : nbN k = [dgt (k : Int)] := by rw [nbN, dif_pos h]
theorem nbN_big {k : Nat} (h : ¬ k < 10) : nbN k = nbN (k / 10) ++ [dgt ((k % 10 : Nat) : Int)] := by rw [nbN, dif_neg h]
theorem nbN_len (b : Nat) : ∀ k : Nat, k < 10 ^ (b + 1) → (nbN k).length ≤ b + 1 := by
  induction b with
  | zero => intro k h; rw [nbN_small (by simpa using h)]; simp
  | succ b ih =>
    intro k h
    by_cases h10 : k < 10
    · rw [nbN_small h10]; simp
    · rw [nbN_big h10, List.length_append, List.length_singleton]
      have := ih (k / 10) (by rw [Nat.pow_succ] at h; omega)
      omega
@[irreducible] def nbI (n : Int) : List UInt8 := if n < 0 then 45 :: nbN (-n).toNat else nbN n.toNat
theorem nbI_small {n : Int} (h0 : 0 ≤ n) (h : n < 10) : nbI n = [dgt (n % 10)] := by
  unfold nbI
  rw [if_neg (by omega), nbN_small (by omega)]
  congr 2; omega
theorem nbI_big {n : Int} (h : 10 ≤ n) : nbI n = nbI (n / 10) ++ [dgt (n % 10)] := by
  unfold nbI
  rw [if_neg (by omega), if_neg (by omega), nbN_big (by omega)]
  congr 3
  · omega
  · omega
@[irreducible] def ruD (k n w : Int) : List UInt8 := if k = 0 then nbI n else if k = 1 then lastL ++ wkS w else if k = 2 then wkS w ++ [62, 61] ++ nbI n else wkS w ++ [60, 61] ++ nbI n
theorem lit_bs15 (a : Array UInt8) : (⟨a⟩ : ByteArray) = bs a.toList := by unfold bs; simp
end Go.Proofs.YteinjdmkmfeniaaGreatDoor
namespace Go.Proofs.YteinjdmkmfeniaaGreatDoor
set_option linter.unusedVariables false
set_option linter.unusedSimpArgs false
open Go.ChangeShapes Go.WideShapes Go.ChangeAt Go.RowKit
def moL (sg : List UInt8) (y m d h i s : Int) : List UInt8 := sg ++ (twoL (y / 100) ++ twoL y ++ [45] ++ twoL m ++ [45] ++ twoL d ++ [84]) ++ twoL h ++ [58] ++ twoL i ++ [58] ++ twoL s
end Go.Proofs.YteinjdmkmfeniaaGreatDoor
namespace Go.Proofs.YteinjdmkmfeniaaGreatDoor
set_option linter.unusedVariables false
set_option linter.unusedSimpArgs false
structure Lin where
  k : Int
  s : Int
  f : Int
  t : Int
  m : Int
  dk : Int
  dn : Int
  dw : Int
  ti : Int
  rd : Int
  off : Int
  dst : Bool
  abb : List UInt8
structure Src where
  nam : List UInt8
  off : Int
  dst : Bool
  abb : List UInt8
  lns : List Lin
def src0 : Src := ⟨[], 0, false, [], []⟩
def wd (w : List (List UInt8)) (i : Nat) : List UInt8 := w.getD i []
def aliE (w : List (List UInt8)) : Int := if w.length ≠ 5 then 2 else if (momR (wd w 1)).2 ≠ 0 then (momR (wd w 1)).2 else (triR (wd w 2) (wd w 3) (wd w 4)).2.2.2
def aliL (w : List (List UInt8)) : Lin := ⟨1, (momR (wd w 1)).1, 0, 0, 0, 0, 0, 0, 0, 0, (triR (wd w 2) (wd w 3) (wd w 4)).1, (triR (wd w 2) (wd w 3) (wd w 4)).2.1, (triR (wd w 2) (wd w 3) (wd w 4)).2.2.1⟩
def ruE (w : List (List UInt8)) : Int :=
  if w.length ≠ 10 then 2 else if (yrsR (wd w 1) (wd w 2)).2.2 ≠ 0 then (yrsR (wd w 1) (wd w 2)).2.2 else if monI (wd w 3) = 0 then 2
  else if (dayR (wd w 4)).2.2.2 ≠ 0 then (dayR (wd w 4)).2.2.2 else if timE (wd w 5) ≠ 0 then timE (wd w 5) else if offE (wd w 6) ≠ 0 then offE (wd w 6)
  else if (triR (wd w 7) (wd w 8) (wd w 9)).2.2.2 ≠ 0 then (triR (wd w 7) (wd w 8) (wd w 9)).2.2.2 else if (yrsR (wd w 1) (wd w 2)).2.1 < (yrsR (wd w 1) (wd w 2)).1 then 5 else 0
def ruL (w : List (List UInt8)) : Lin :=
  ⟨2, 0, (yrsR (wd w 1) (wd w 2)).1, (yrsR (wd w 1) (wd w 2)).2.1, monI (wd w 3), (dayR (wd w 4)).1, (dayR (wd w 4)).2.1, (dayR (wd w 4)).2.2.1, timV (wd w 5), offV (wd w 6),
    (triR (wd w 7) (wd w 8) (wd w 9)).1, (triR (wd w 7) (wd w 8) (wd w 9)).2.1, (triR (wd w 7) (wd w 8) (wd w 9)).2.2.1⟩
def tailN (l : List Lin) : Nat := (l.filter (fun x => x.t == 1048576)).length
def atW : List UInt8 := [97, 116]
def rulW : List UInt8 := [114, 117, 108, 101]
def zonW : List UInt8 := [122, 111, 110, 101]
def basW : List UInt8 := [98, 97, 115, 101]
def lnE (ls : List Lin) (w : List (List UInt8)) : Int :=
  if 16 ≤ ls.length then 1 else if wd w 0 = atW then aliE w else if wd w 0 = rulW then (if w.length = 10 ∧ wd w 2 = onL ∧ 4 ≤ tailN ls then 1 else ruE w) else 2
def lnL (w : List (List UInt8)) : Lin := if wd w 0 = atW then aliL w else ruL w
def hdE (n : Nat) (w : List (List UInt8)) : Int :=
  if n = 0 then (if wd w 0 ≠ zonW ∨ w.length ≠ 2 then 2 else namE (wd w 1)) else (if wd w 0 ≠ basW ∨ w.length ≠ 3 then 2 else if offE (wd w 1) ≠ 0 then offE (wd w 1) else abbE (wd w 2))
def hdS (z : Src) (n : Nat) (w : List (List UInt8)) : Src := if n = 0 then { z with nam := wd w 1 } else { z with off := offV (wd w 1), dst := false, abb := wd w 2 }
def stE (z : Src) (n : Nat) (w : List (List UInt8)) : Int := if n < 2 then hdE n w else lnE z.lns w
def stS (z : Src) (n : Nat) (w : List (List UInt8)) : Src := if n < 2 then hdS z n w else { z with lns := z.lns ++ [lnL w] }
def prsT : List Tok → Src → Nat → List (List UInt8) → Src × Int × Int
  | [], z, n, _ => if n < 2 then (src0, 0, 2) else (z, 0, 0)
  | (t, k) :: r, z, n, w => if t ≠ [10] then prsT r z n (w ++ [t]) else if stE z n w ≠ 0 then (src0, k, stE z n w) else prsT r (stS z n w) (n + 1) []
def prsR (s : List UInt8) : Src × Int × Int := if lexE s ≠ 0 then (src0, 0, lexE s) else prsT (lexT s) src0 0 []
theorem prsT_word {t : List UInt8} {k : Int} {r : List Tok} {z : Src} {n : Nat} {w : List (List UInt8)} (h : t ≠ [10]) : prsT ((t, k) :: r) z n w = prsT r z n (w ++ [t]) := by rw [prsT, if_pos h]
theorem prsT_err {k : Int} {r : List Tok} {z : Src} {n : Nat} {w : List (List UInt8)} (h : stE z n w ≠ 0) : prsT (([10], k) :: r) z n w = (src0, k, stE z n w) := by rw [prsT, if_neg (by simp), if_pos h]
theorem prsT_line {k : Int} {r : List Tok} {z : Src} {n : Nat} {w : List (List UInt8)} (h : stE z n w = 0) : prsT (([10], k) :: r) z n w = prsT r (stS z n w) (n + 1) [] := by rw [prsT, if_neg (by simp), if_neg (by simpa using h)]
theorem prsT_words (ws : List (List UInt8)) : ∀ {k : Int} {r : List Tok} {z : Src} {n : Nat} {w : List (List UInt8)}, (∀ t ∈ ws, t ≠ [10]) → prsT (ws.map (fun t => (t, k)) ++ r) z n w = prsT r z n (w ++ ws) := by
  induction ws with
  | nil => intro k r z n w _; simp
  | cons t ws ih =>
    intro k r z n w h
    rw [List.map_cons, List.cons_append, prsT_word (h t (by simp)), ih (fun x hx => h x (by simp [hx])), List.append_assoc]
    rfl
def OkT (off : Int) (abb : List UInt8) : Prop := -64800 ≤ off ∧ off ≤ 64800 ∧ abbE abb = 0
def OkL (l : Lin) : Prop :=
  ((l.k = 1 ∧ l.f = 0 ∧ l.t = 0 ∧ l.m = 0 ∧ l.dk = 0 ∧ l.dn = 0 ∧ l.dw = 0 ∧ l.ti = 0 ∧ l.rd = 0 ∧ -377705116800 ≤ l.s ∧ l.s ≤ 253402300799) ∨
   (l.k = 2 ∧ l.s = 0 ∧ -9999 ≤ l.f ∧ l.f ≤ 9999 ∧ (l.t = 1048576 ∨ (-9999 ≤ l.t ∧ l.t ≤ 9999 ∧ l.f ≤ l.t)) ∧ 1 ≤ l.m ∧ l.m ≤ 12 ∧ mayD l.dk l.dn l.dw = true ∧ 0 ≤ l.ti ∧ l.ti ≤ 86400 ∧ -64800 ≤ l.rd ∧ l.rd ≤ 64800)) ∧ OkT l.off l.abb
def OkS (z : Src) : Prop := z.lns.length ≤ 16 ∧ tailN z.lns ≤ 4 ∧ namE z.nam = 0 ∧ OkT z.off z.abb ∧ z.dst = false ∧ ∀ l ∈ z.lns, OkL l
theorem nbN_dg : ∀ k : Nat, (nbN k).all dgB = true ∧ dval (nbN k) = k ∧ 0 < (nbN k).length ∧ (zero1 (nbN k) = true → k = 0) := by
  intro k
  induction k using Nat.strongRecOn with
  | ind k ih =>
    by_cases h : k < 10
    · rw [nbN_small h]
      have e := dgt_nat (p := (k : Int)) (by omega) (by omega)
      have d := dgB_dgt (p := (k : Int)) (by omega) (by omega)
      refine ⟨by simp [d], by unfold dval; simp [e], by simp, ?_⟩
      intro hz
      unfold zero1 at hz
      simp [e] at hz
      omega
    · rw [nbN_big h]
      obtain ⟨a, b, c, z⟩ := ih (k / 10) (by omega)
      have e := dgt_nat (p := ((k % 10 : Nat) : Int)) (by omega) (by omega)
      have d := dgB_dgt (p := ((k % 10 : Nat) : Int)) (by omega) (by omega)
      refine ⟨by rw [List.all_append, a, List.all_cons, d]; rfl, by rw [dval_snoc, b, e]; omega, by simp, ?_⟩
      intro hz
      have : zero1 (nbN (k / 10)) = true := by
        cases hx : nbN (k / 10) with
        | nil => rw [hx] at c; simp at c
        | cons x y => rw [hx] at hz; simpa [zero1] using hz
      have := z this
      omega
theorem neg_dg {t : List UInt8} (h : t.all dgB = true) (h0 : 0 < t.length) : negB t = false := by
  cases t with
  | nil => simp at h0
  | cons c t =>
    simp only [List.all_cons, Bool.and_eq_true] at h
    have := (dgB_iff c).1 h.1
    simp [negB]
    omega
theorem nb_back {n lo hi : Int} (h1 : -999999 ≤ n) (h2 : n ≤ 999999) (hl : lo ≤ n) (hh : n ≤ hi) : numE (nbI n) lo hi = 0 ∧ numV (nbI n) lo hi = n := by
  by_cases hn : n < 0
  · obtain ⟨a, b, c, z⟩ := nbN_dg (-n).toNat
    have e : nbI n = 45 :: nbN (-n).toNat := by unfold nbI; rw [if_pos hn]
    have hneg : negB (nbI n) = true := by rw [e]; rfl
    have hb : bodyN (nbI n) = nbN (-n).toNat := by rw [(body_neg hneg).1, e]; rfl
    have hI : numI (nbI n) = n := by rw [numI_neg hneg, hb, b]; omega
    have hlen : (nbN (-n).toNat).length ≤ 6 := nbN_len 5 _ (by omega)
    have hF : numF (bodyN (nbI n)) (negB (nbI n)) = true := by
      rw [hb]
      refine numF_yes (by omega) hlen a (Or.inl ?_)
      cases hz : zero1 (nbN (-n).toNat) with
      | false => rfl
      | true => have := z hz; omega
    have := num_ok (lo := lo) (hi := hi) hF (by rw [hI]; omega)
    rw [hI] at this
    exact this
  · obtain ⟨a, b, c, z⟩ := nbN_dg n.toNat
    have e : nbI n = nbN n.toNat := by unfold nbI; rw [if_neg hn]
    have hneg : negB (nbI n) = false := by rw [e]; exact neg_dg a c
    have hb : bodyN (nbI n) = nbN n.toNat := by rw [body_pos hneg, e]
    have hI : numI (nbI n) = n := by rw [numI_pos hneg, hb, b]; omega
    have hlen : (nbN n.toNat).length ≤ 6 := nbN_len 5 _ (by omega)
    have hF : numF (bodyN (nbI n)) (negB (nbI n)) = true := by
      rw [hb, hneg]
      refine numF_yes (by omega) hlen a ?_
      cases hz : zero1 (nbN n.toNat) with
      | false => exact Or.inl rfl
      | true =>
        have h0 := z hz
        right
        rw [h0, nbN_small (by decide)]
        simp
    have := num_ok (lo := lo) (hi := hi) hF (by rw [hI]; omega)
    rw [hI] at this
    exact this
end Go.Proofs.YteinjdmkmfeniaaGreatDoor
namespace Go.Proofs.YteinjdmkmfeniaaGreatDoor
set_option linter.unusedVariables false
set_option linter.unusedSimpArgs false
def plB (c : UInt8) : Bool := decide (33 ≤ c.toNat) && decide (c.toNat ≤ 126) && !(c.toNat == 35)
theorem plB_iff (c : UInt8) : plB c = true ↔ 33 ≤ c.toNat ∧ c.toNat ≤ 126 ∧ c.toNat ≠ 35 := by unfold plB; simp [and_assoc]
def plW (t : List UInt8) : Prop := t ≠ [] ∧ t.all plB = true
theorem plW_nl {t : List UInt8} (h : plW t) : t ≠ [10] := by
  intro e
  have := h.2
  rw [e] at this
  exact absurd this (by decide)
theorem plB_step {c : UInt8} (h : plB c = true) {S : LxS} (hn : S.note = false) : lxStep S c = { S with cur := S.cur ++ [c] } := by
  have := (plB_iff c).1 h
  unfold lxStep
  rw [if_neg (by omega), if_neg (by rw [hn]; decide), if_neg (by omega), if_neg]
  unfold blankB
  simp
  omega
theorem lx_word (t : List UInt8) : ∀ {S : LxS}, t.all plB = true → S.note = false → t.foldl lxStep S = { S with cur := S.cur ++ t } := by
  induction t with
  | nil => intro S _ _; simp
  | cons c t ih =>
    intro S h hn
    simp only [List.all_cons, Bool.and_eq_true] at h
    rw [List.foldl_cons, plB_step h.1 hn, ih h.2 (by exact hn)]
    simp
def joinW : List (List UInt8) → List UInt8
  | [] => []
  | t :: r => if r = [] then t else t ++ 32 :: joinW r
theorem lx_join (ws : List (List UInt8)) : ∀ {S : LxS}, (∀ t ∈ ws, plW t) → ws ≠ [] → S.cur = [] → S.note = false →
    lxFl ((joinW ws).foldl lxStep S) = ⟨S.out ++ ws.map (fun t => (t, S.ln)), S.ln, [], false, true⟩ := by
  induction ws with
  | nil => intro S _ h; exact absurd rfl h
  | cons t r ih =>
    intro S hp _ hc hn
    have ht := hp t (by simp)
    by_cases hr : r = []
    · subst hr
      rw [joinW, if_pos rfl, lx_word t ht.2 hn, hc]
      unfold lxFl
      have h1 : t ≠ [] := ht.1
      cases t with
      | nil => exact absurd rfl h1
      | cons x y => simp [hn]
    · rw [joinW, if_neg hr, List.foldl_append, lx_word t ht.2 hn, hc, List.foldl_cons]
      have e : lxStep { S with cur := [] ++ t } 32 = ⟨S.out ++ [(t, S.ln)], S.ln, [], false, true⟩ := by
        rw [st_blank (by decide) (by exact hn)]
        unfold lxFl
        have h1 : t ≠ [] := ht.1
        cases t with
        | nil => exact absurd rfl h1
        | cons x y => simp [hn]
      rw [e, ih (fun x hx => hp x (by simp [hx])) hr rfl rfl]
      simp
theorem lx_line {ws : List (List UInt8)} {S : LxS} (hp : ∀ t ∈ ws, plW t) (h0 : ws ≠ []) (hc : S.cur = []) (hn : S.note = false) :
    (joinW ws ++ [10]).foldl lxStep S = ⟨S.out ++ (ws.map (fun t => (t, S.ln)) ++ [([10], S.ln)]), S.ln + 1, [], false, false⟩ := by
  have h := lx_join ws hp h0 hc hn
  rw [List.foldl_append, List.foldl_cons, List.foldl_nil, st_nl (by decide)]
  generalize (joinW ws).foldl lxStep S = R at *
  have hl : R.ln = S.ln := by have := congrArg LxS.ln h; simpa [lxFl] using this
  unfold lxNl
  rw [h, hl]
  simp
def lineB (ws : List (List UInt8)) : List UInt8 := joinW ws ++ [10]
def textB (G : List (List (List UInt8))) : List UInt8 := G.flatMap lineB
def tokG : Int → List (List (List UInt8)) → List Tok
  | _, [] => []
  | k, ws :: r => ws.map (fun t => (t, k)) ++ ([10], k) :: tokG (k + 1) r
theorem lx_text (G : List (List (List UInt8))) : ∀ {S : LxS}, (∀ ws ∈ G, ws ≠ [] ∧ ∀ t ∈ ws, plW t) → S.cur = [] → S.note = false → S.any = false →
    (textB G).foldl lxStep S = ⟨S.out ++ tokG S.ln G, S.ln + G.length, [], false, false⟩ := by
  induction G with
  | nil => intro S _ h1 h2 h3; cases S; simp_all [textB, tokG]
  | cons ws r ih =>
    intro S hp hc hn ha
    unfold textB at *
    have hw := hp ws (by simp)
    rw [List.flatMap_cons, List.foldl_append]
    unfold lineB at *
    rw [lx_line hw.2 hw.1 hc hn, ih (fun x hx => hp x (by simp [hx])) rfl rfl rfl]
    simp [tokG]
    omega
theorem tokL_text {G : List (List (List UInt8))} (h : ∀ ws ∈ G, ws ≠ [] ∧ ∀ t ∈ ws, plW t) : tokL (textB G) = tokG 1 G := by
  rw [tokL_lx]
  unfold lxF
  rw [lx_text G h rfl rfl rfl]
  simp [lxNl, lxFl, lx0]
theorem join_mem (ws : List (List UInt8)) (h : ∀ t ∈ ws, plW t) : ∀ c ∈ joinW ws, plB c = true ∨ c = 32 := by
  induction ws with
  | nil => intro c hc; simp [joinW] at hc
  | cons t r ih =>
    intro c hc
    have ht : ∀ c ∈ t, plB c = true := List.all_eq_true.1 (h t (by simp)).2
    rw [joinW] at hc
    split at hc
    · exact Or.inl (ht c hc)
    · rcases List.mem_append.1 hc with h1 | h1
      · exact Or.inl (ht c h1)
      · rcases List.mem_cons.1 h1 with h2 | h2
        · exact Or.inr h2
        · exact ih (fun x hx => h x (by simp [hx])) c h2
theorem bad_text {G : List (List (List UInt8))} (h : ∀ ws ∈ G, ws ≠ [] ∧ ∀ t ∈ ws, plW t) : badB (textB G) = false := by
  unfold badB
  rw [List.any_eq_false]
  intro c hc
  unfold textB at hc
  obtain ⟨ws, hws, hc⟩ := List.mem_flatMap.1 hc
  have : plB c = true ∨ c = 32 ∨ c = 10 := by
    unfold lineB at hc
    rcases List.mem_append.1 hc with h1 | h1
    · rcases join_mem ws (h ws hws).2 c h1 with h2 | h2
      · exact Or.inl h2
      · exact Or.inr (Or.inl h2)
    · exact Or.inr (Or.inr (by simpa using h1))
  rcases this with h1 | h1 | h1
  · have := (plB_iff c).1 h1
    unfold oddB
    simp
    omega
  · subst h1; decide
  · subst h1; decide
theorem tokG_len (B : Nat) (G : List (List (List UInt8))) : ∀ k : Int, (∀ ws ∈ G, ws.length ≤ B) → (tokG k G).length ≤ G.length * (B + 1) := by
  induction G with
  | nil => intro k _; simp [tokG]
  | cons ws r ih =>
    intro k h
    have h1 := h ws (by simp)
    have h2 := ih (k + 1) (fun x hx => h x (by simp [hx]))
    simp only [tokG, List.length_append, List.length_map, List.length_cons, Nat.succ_mul]
    omega
theorem text_len (B : Nat) (G : List (List (List UInt8))) (h : ∀ ws ∈ G, (lineB ws).length ≤ B) : (textB G).length ≤ G.length * B := by
  induction G with
  | nil => simp [textB]
  | cons ws r ih =>
    have h1 := h ws (by simp)
    have h2 := ih (fun x hx => h x (by simp [hx]))
    unfold textB at *
    simp only [List.flatMap_cons, List.length_append, List.length_cons, Nat.succ_mul]
    omega
theorem lex_text {G : List (List (List UInt8))} (h : ∀ ws ∈ G, ws ≠ [] ∧ ∀ t ∈ ws, plW t) (h1 : (textB G).length ≤ 4096) (h2 : (tokG 1 G).length ≤ 1024) : lexE (textB G) = 0 ∧ lexT (textB G) = tokG 1 G := by
  have := lex_ok (l := textB G) (by omega) (by rw [tokL_text h]; omega) (bad_text h)
  rw [tokL_text h] at this
  exact this
theorem prs_step {k : Int} {ws : List (List UInt8)} {r : List (List (List UInt8))} {z : Src} {n : Nat} (hp : ∀ t ∈ ws, plW t) (he : stE z n ws = 0) :
    prsT (tokG k (ws :: r)) z n [] = prsT (tokG (k + 1) r) (stS z n ws) (n + 1) [] := by
  rw [tokG, prsT_words ws (fun t ht => plW_nl (hp t ht)), List.nil_append, prsT_line he]
end Go.Proofs.YteinjdmkmfeniaaGreatDoor
namespace Go.Proofs.YteinjdmkmfeniaaGreatDoor
set_option linter.unusedVariables false
set_option linter.unusedSimpArgs false
theorem plB_dg {c : UInt8} (h : dgB c = true) : plB c = true := by rw [plB_iff]; have := (dgB_iff c).1 h; omega
theorem pl_all {a b : List UInt8} (ha : a.all plB = true) (hb : b.all plB = true) : (a ++ b).all plB = true := by rw [List.all_append, ha, hb]; rfl
theorem pl_dgs {t : List UInt8} (h : t.all dgB = true) : t.all plB = true := List.all_eq_true.2 (fun c hc => plB_dg (List.all_eq_true.1 h c hc))
theorem pl_dgt {p : Int} (h0 : 0 ≤ p) (h9 : p ≤ 9) : plB (dgt p) = true := plB_dg (dgB_dgt h0 h9)
theorem pl_two (n : Int) : (twoL n).all plB = true := by
  unfold twoL
  simp [pl_dgt (p := n / 10 % 10) (by omega) (by omega), pl_dgt (p := n % 10) (by omega) (by omega)]
theorem nbI_ne (n : Int) : nbI n ≠ [] := by
  unfold nbI
  split
  · simp
  · have := (nbN_dg n.toNat).2.2.1
    intro h; rw [h] at this; simp at this
theorem pl_nb (n : Int) : plW (nbI n) := by
  refine ⟨nbI_ne n, ?_⟩
  unfold nbI
  split
  · rw [List.all_cons, pl_dgs (nbN_dg _).1]; rfl
  · exact pl_dgs (nbN_dg _).1
theorem nbI_hd (n : Int) : ∃ c r, nbI n = c :: r ∧ (c = 45 ∨ dgB c = true) := by
  unfold nbI
  split
  · exact ⟨45, _, rfl, Or.inl rfl⟩
  · obtain ⟨a, _, c, _⟩ := nbN_dg n.toNat
    cases h : nbN n.toNat with
    | nil => rw [h] at c; simp at c
    | cons x y => rw [h] at a; simp only [List.all_cons, Bool.and_eq_true] at a; exact ⟨x, y, rfl, Or.inr a.1⟩
theorem nbI_o {n : Int} {r : List UInt8} : nbI n ≠ 111 :: r := by
  obtain ⟨c, x, e, h⟩ := nbI_hd n
  rw [e]
  intro h2
  obtain ⟨rfl, _⟩ := List.cons.inj h2
  rcases h with h | h
  · exact absurd h (by decide)
  · exact absurd h (by decide)
theorem nbI_len7 {n : Int} (h1 : -999999 ≤ n) (h2 : n ≤ 999999) : (nbI n).length ≤ 7 := by
  unfold nbI
  split
  · have := nbN_len 5 (-n).toNat (by omega); simp; omega
  · have := nbN_len 5 n.toNat (by omega); omega
def toW (f t : Int) : List UInt8 := if t = 1048576 then onL else if t = f then onlyL else nbI t
theorem yrs_back {f t : Int} (f1 : -9999 ≤ f) (f2 : f ≤ 9999) (ht : t = 1048576 ∨ (-9999 ≤ t ∧ t ≤ 9999 ∧ f ≤ t)) : yrsR (nbI f) (toW f t) = (f, t, 0) ∧ plW (toW f t) ∧ (toW f t).length ≤ 7 ∧ (toW f t = onL → t = 1048576) := by
  obtain ⟨e, v⟩ := nb_back (n := f) (lo := -9999) (hi := 9999) (by omega) (by omega) f1 f2
  have hx : ¬ numE (nbI f) (-9999) 9999 ≠ 0 := by omega
  unfold toW
  by_cases h1 : t = 1048576
  · rw [if_pos h1]
    refine ⟨?_, ⟨by decide, by decide⟩, by decide, fun _ => h1⟩
    unfold yrsR
    rw [if_neg hx, if_neg (by decide), if_pos rfl, v, h1]
  · rw [if_neg h1]
    obtain ⟨t1, t2, t3⟩ : -9999 ≤ t ∧ t ≤ 9999 ∧ f ≤ t := by omega
    by_cases h2 : t = f
    · rw [if_pos h2]
      refine ⟨?_, ⟨by decide, by decide⟩, by decide, fun h => absurd h (by decide)⟩
      unfold yrsR
      rw [if_neg hx, if_pos rfl, v, h2]
    · rw [if_neg h2]
      obtain ⟨e', v'⟩ := nb_back (n := t) (lo := -9999) (hi := 9999) (by omega) (by omega) t1 t2
      have n1 : nbI t ≠ onlyL := nbI_o
      have n2 : nbI t ≠ onL := nbI_o
      refine ⟨?_, pl_nb t, nbI_len7 (by omega) (by omega), fun h => absurd h n2⟩
      unfold yrsR
      rw [if_neg hx, if_neg n1, if_neg n2, v, v', e']
theorem nb_nm {n : Int} (h1 : 1 ≤ n) (h2 : n ≤ 31) : nbI n = nmL n := by
  unfold nmL
  by_cases h : 10 ≤ n
  · rw [if_pos h, nbI_big h, nbI_small (by omega) (by omega), show n / 10 % 10 = n / 10 by omega]; rfl
  · rw [if_neg h, nbI_small (by omega) (by omega)]
theorem wkS_pl : ∀ k : Fin 7, (wkS ((k.val : Int) + 1)).all plB = true := by decide +kernel
theorem wkS_plW {k : Int} (h1 : 1 ≤ k) (h7 : k ≤ 7) : (wkS k).all plB = true := by
  have := wkS_pl ⟨(k - 1).toNat, by omega⟩
  rwa [show (((k - 1).toNat : Nat) : Int) + 1 = k by omega] at this
theorem mayD_parts {k n w : Int} (h : mayD k n w = true) : (k = 0 ∧ (1 ≤ n ∧ n ≤ 31) ∧ w = 0) ∨ (k = 1 ∧ (1 ≤ w ∧ w ≤ 7) ∧ n = 0) ∨ (k = 2 ∧ (1 ≤ w ∧ w ≤ 7) ∧ (1 ≤ n ∧ n ≤ 31)) ∨ (k = 3 ∧ (1 ≤ w ∧ w ≤ 7) ∧ (1 ≤ n ∧ n ≤ 31)) := by
  unfold mayD at h
  by_cases h0 : k = 0
  · rw [if_pos h0] at h; simp [okN] at h; omega
  · rw [if_neg h0] at h
    by_cases h1 : k = 1
    · rw [if_pos h1] at h; simp [okW] at h; omega
    · rw [if_neg h1] at h
      by_cases h2 : k = 2 ∨ k = 3
      · rw [if_pos h2] at h; simp [okN, okW] at h; omega
      · rw [if_neg h2] at h; cases h
theorem day_back {k n w : Int} (h : mayD k n w = true) : dayR (ruD k n w) = (k, n, w, 0) ∧ plW (ruD k n w) ∧ (ruD k n w).length ≤ 8 := by
  rcases mayD_parts h with ⟨rfl, ⟨n1, n2⟩, rfl⟩ | ⟨rfl, ⟨w1, w2⟩, rfl⟩ | ⟨rfl, ⟨w1, w2⟩, n1, n2⟩ | ⟨rfl, ⟨w1, w2⟩, n1, n2⟩
  · have e : ruD 0 n 0 = nbI n := by unfold ruD; rfl
    have d := (wk_days (w := 1) (n := n) (by decide) (by decide) n1 n2).2.2.2
    rw [e]
    exact ⟨by rw [nb_nm n1 n2]; exact d, pl_nb n, by have := nbI_len7 (n := n) (by omega) (by omega); omega⟩
  · have e : ruD 1 0 w = lastL ++ wkS w := by unfold ruD; rfl
    have d := (wk_days (w := w) (n := 1) w1 w2 (by decide) (by decide)).1
    have l := wkS_len w w1 w2
    rw [e]
    exact ⟨d, ⟨by unfold lastL; simp, pl_all (by decide) (wkS_plW w1 w2)⟩, by rw [List.length_append, l]; decide⟩
  · have e : ruD 2 n w = wkS w ++ [62, 61] ++ nbI n := by unfold ruD; rfl
    have d := (wk_days (w := w) (n := n) w1 w2 n1 n2).2.1
    have l := wkS_len w w1 w2
    rw [e, nb_nm n1 n2]
    refine ⟨d, ⟨by simp, pl_all (pl_all (wkS_plW w1 w2) (by decide)) (by rw [← nb_nm n1 n2]; exact (pl_nb n).2)⟩, ?_⟩
    rw [List.length_append, List.length_append, l]
    unfold nmL
    split <;> simp
  · have e : ruD 3 n w = wkS w ++ [60, 61] ++ nbI n := by unfold ruD; rfl
    have d := (wk_days (w := w) (n := n) w1 w2 n1 n2).2.2.1
    have l := wkS_len w w1 w2
    rw [e, nb_nm n1 n2]
    refine ⟨d, ⟨by simp, pl_all (pl_all (wkS_plW w1 w2) (by decide)) (by rw [← nb_nm n1 n2]; exact (pl_nb n).2)⟩, ?_⟩
    rw [List.length_append, List.length_append, l]
    unfold nmL
    split <;> simp
theorem hms_tim2 {n : Int} (h0 : 0 ≤ n) (h1 : n ≤ 86400) : hmsV (timL n) = n := by
  by_cases h : n ≤ 64800
  · exact hms_tim h0 h
  · have e1 := dgV_two (k := n / 3600) (by omega) (by omega)
    have e2 := dgV_two (k := n / 60 % 60) (by omega) (by omega)
    have e3 := dgV_two (k := n % 60) (by omega) (by omega)
    by_cases hs : n % 60 = 0
    · have e : timL n = twoL (n / 3600) ++ [58] ++ twoL (n / 60 % 60) := by unfold timL; rw [if_pos hs, List.append_nil]
      have s1 : sub (timL n) 0 2 = twoL (n / 3600) := by rw [e]; rfl
      have s2 : sub (timL n) 3 2 = twoL (n / 60 % 60) := by rw [e]; rfl
      have hl : (timL n).length = 5 := by rw [e]; rfl
      have hx := hmX_5 hl
      have hF : hmF (timL n) = true := by unfold hmF; rw [e]; rfl
      rw [hms_ok hF (by rw [s1, s2, hx, e1, e2]; exact hmO_ok (by omega) (by omega) (by omega) (by omega) (by omega)), s1, s2, hx, e1, e2]
      omega
    · have e : timL n = twoL (n / 3600) ++ [58] ++ twoL (n / 60 % 60) ++ ([58] ++ twoL (n % 60)) := by unfold timL; rw [if_neg hs]
      have s1 : sub (timL n) 0 2 = twoL (n / 3600) := by rw [e]; rfl
      have s2 : sub (timL n) 3 2 = twoL (n / 60 % 60) := by rw [e]; rfl
      have s3 : sub (timL n) 6 2 = twoL (n % 60) := by rw [e]; rfl
      have hl : (timL n).length = 8 := by rw [e]; rfl
      have hx := hmX_8 hl
      rw [s3, e3] at hx
      have hF : hmF (timL n) = true := by unfold hmF; rw [e]; rfl
      rw [hms_ok hF (by rw [s1, s2, hx, e1, e2]; exact hmO_ok (by omega) (by omega) (by omega) (by omega) (by omega)), s1, s2, hx, e1, e2]
      omega
theorem pl_tim (n : Int) : plW (timL n) := by
  refine ⟨by unfold timL twoL; simp, ?_⟩
  unfold timL
  refine pl_all (pl_all (pl_all (pl_two _) (by decide)) (pl_two _)) ?_
  split
  · rfl
  · exact pl_all (by decide) (pl_two _)
theorem tim_back {n : Int} (h0 : 0 ≤ n) (h1 : n ≤ 86400) : timE (timL n) = 0 ∧ timV (timL n) = n := by
  have e := hms_tim2 h0 h1
  have := tim_ok (L := timL n) (by rw [e]; omega) (by rw [e]; omega)
  rw [e] at this
  exact this
theorem pl_off {n : Int} (h1 : -64800 ≤ n) (h2 : n ≤ 64800) : plW (offL n) ∧ offE (offL n) = 0 ∧ offV (offL n) = n ∧ (offL n).length ≤ 9 := by
  have hx : offX n = 0 := by unfold offX; exact if_neg (by omega)
  refine ⟨?_, off_back hx⟩
  unfold offL
  rw [if_neg (by omega)]
  split
  · exact ⟨by simp, by rw [List.all_cons, (pl_tim _).2]; rfl⟩
  · exact ⟨by simp, by rw [List.all_cons, (pl_tim _).2]; rfl⟩
theorem letN_pl {c : Nat} (h : letN c = true) : 65 ≤ c ∧ c ≤ 122 := by
  rcases let_cases c with ⟨_, e⟩ | ⟨a, _⟩ | ⟨_, e⟩ | ⟨a, _⟩ | ⟨_, e⟩
  · rw [e] at h; cases h
  · omega
  · rw [e] at h; cases h
  · omega
  · rw [e] at h; cases h
theorem pl_abb {t : List UInt8} (h : abbE t = 0) : plW t ∧ t.length ≤ 6 := by
  unfold abbE at h
  split at h
  · rename_i hc
    obtain ⟨a, b, c⟩ := hc
    refine ⟨⟨by intro e; rw [e] at b; simp at b, List.all_eq_true.2 (fun x hx => ?_)⟩, c⟩
    have := letN_pl (List.all_eq_true.1 a x hx)
    rw [plB_iff]; omega
  · omega
theorem pl_nam {t : List UInt8} (h : namE t = 0) : plW t ∧ t.length ≤ 32 := by
  unfold namE at h
  split at h
  · rename_i hc
    obtain ⟨a, b, c⟩ := hc
    refine ⟨⟨by intro e; rw [e] at a; simp at a, List.all_eq_true.2 (fun x hx => ?_)⟩, b⟩
    have hn := List.all_eq_true.1 c x hx
    rw [plB_iff]
    rcases nam_cases x.toNat with ⟨e, _⟩ | ⟨_, e, _⟩ | ⟨_, _, e⟩
    · have := letN_pl e; omega
    · omega
    · rw [e] at hn; cases hn
  · omega
theorem tri_back {off : Int} {dst : Bool} {abb : List UInt8} (h : OkT off abb) : triR (offL off) (if dst = true then dstL else stdL) abb = (off, dst, abb, 0) := by
  obtain ⟨h1, h2, h3⟩ := h
  obtain ⟨_, e, v, _⟩ := pl_off h1 h2
  cases dst
  · rw [if_neg (by decide), tri_ok (by omega) (by decide) (by omega), v]; rfl
  · rw [if_pos rfl, tri_ok (by omega) (by decide) (by omega), v]; rfl
theorem mon_pl : ∀ k : Fin 12, (moS ((k.val : Int) + 1)).all plB = true := by decide +kernel
theorem pl_mon {m : Int} (h1 : 1 ≤ m) (h2 : m ≤ 12) : plW (moS m) ∧ monI (moS m) = m ∧ (moS m).length = 3 := by
  have l := moS_len m h1 h2
  have p := mon_pl ⟨(m - 1).toNat, by omega⟩
  rw [show (((m - 1).toNat : Nat) : Int) + 1 = m by omega] at p
  exact ⟨⟨by intro e; rw [e] at l; simp at l, p⟩, mon_moS m h1 h2, l⟩
end Go.Proofs.YteinjdmkmfeniaaGreatDoor
namespace Go.Proofs.YteinjdmkmfeniaaGreatDoor
set_option linter.unusedVariables false
set_option linter.unusedSimpArgs false
theorem civ_of (S : Int) (h1 : -377705116800 ≤ S) (h2 : S ≤ 253402300799) : ∃ y m d h i s, IsCiv S 0 y m d h i s 0 0 := by
  obtain ⟨y, m, d, h, i, s, k, E, hc⟩ := isCiv_ex S 0
  rcases hc with ⟨a, _⟩ | ⟨_, _, a, _⟩ | hc
  · omega
  · omega
  · obtain ⟨_, _, _, _, _, _, _, _, _, _, _, rfl, rfl⟩ := id hc
    exact ⟨y, m, d, h, i, s, Or.inr (Or.inr hc)⟩
theorem isCiv_fix {S n y m d h i s k E y' m' d' h' i' s' k' E' : Int} (a : IsCiv S n y m d h i s k E) (b : IsCiv S n y' m' d' h' i' s' k' E') (hE : E = 0) :
    y = y' ∧ m = m' ∧ d = d' ∧ h = h' ∧ i = i' ∧ s = s' ∧ k = k' ∧ E' = 0 := by
  subst hE
  rcases a with ⟨_, _, _, _, _, _, _, _, e⟩ | ⟨_, _, _, _, _, _, _, _, _, _, e⟩ | ⟨n1, n2, s1, s2, hm, y1, y2, hd, rfl, rfl, rfl, rfl, _⟩
  · exact absurd e (by decide)
  · exact absurd e (by decide)
  · rcases b with ⟨a, _⟩ | ⟨_, _, a, _⟩ | ⟨_, _, _, _, hm', _, _, hd', rfl, rfl, rfl, rfl, rfl⟩
    · omega
    · omega
    · obtain ⟨rfl, rfl, rfl⟩ := dn_inj hm hm' (by omega)
      exact ⟨rfl, rfl, rfl, rfl, rfl, rfl, rfl, rfl⟩
def moW (y m d h i s : Int) : List UInt8 := if y < 0 then moL [45] (-y) m d h i s else moL [] y m d h i s
theorem mom_ex (S : Int) : ∃ L : List UInt8, (-377705116800 ≤ S ∧ S ≤ 253402300799) → ∃ y m d h i s, IsCiv S 0 y m d h i s 0 0 ∧ L = moW y m d h i s := by
  by_cases H : -377705116800 ≤ S ∧ S ≤ 253402300799
  · obtain ⟨y, m, d, h, i, s, hc⟩ := civ_of S H.1 H.2
    exact ⟨_, fun _ => ⟨y, m, d, h, i, s, hc, rfl⟩⟩
  · exact ⟨[], fun h => absurd h H⟩
noncomputable def momL (S : Int) : List UInt8 := Classical.choose (mom_ex S)
theorem momL_of {S y m d h i s : Int} (hc : IsCiv S 0 y m d h i s 0 0) (h1 : -377705116800 ≤ S) (h2 : S ≤ 253402300799) : momL S = moW y m d h i s := by
  obtain ⟨y', m', d', h', i', s', hc', e⟩ := Classical.choose_spec (mom_ex S) ⟨h1, h2⟩
  obtain ⟨rfl, rfl, rfl, rfl, rfl, rfl, _⟩ := isCiv_fix hc hc' rfl
  exact e
theorem isCiv_bd {S y m d h i s : Int} (hc : IsCiv S 0 y m d h i s 0 0) : -9999 ≤ y ∧ y ≤ 9999 ∧ 1 ≤ m ∧ m ≤ 12 ∧ 1 ≤ d ∧ d ≤ 31 ∧ 0 ≤ h ∧ h ≤ 23 ∧ 0 ≤ i ∧ i ≤ 59 ∧ 0 ≤ s ∧ s ≤ 59 ∧ ckT y m d h i s 0 = 0 ∧ nuT y m d h i s = S := by
  rcases hc with ⟨a, _⟩ | ⟨_, _, _, _, _, _, _, _, _, _, e⟩ | ⟨_, _, s1, s2, hm, y1, y2, hd, eh, ei, es, _, _⟩
  · omega
  · exact absurd e (by decide)
  · obtain ⟨p1, p2, p3, p4, p5⟩ := mayB_yes hm
    have h31 : d ≤ 31 := by have := mdI_le y m; omega
    have kk : ckK h i s 0 = 0 := by unfold ckK; rw [if_pos (by unfold okK; omega)]
    have ct : ckT y m d h i s 0 = 0 := by rw [ckT_ok kk]; exact ckC_ok hm (by omega)
    have nn : nuT y m d h i s = S := by unfold nuT scK; rw [hd, eh, ei, es]; omega
    exact ⟨y1, y2, p3, p4, p1, h31, by omega, by omega, by omega, by omega, by omega, by omega, ct, nn⟩
theorem four_dg {y : Int} (h0 : 0 ≤ y) (h1 : y ≤ 9999) : dgV (twoL (y / 100) ++ twoL y) = y := by
  have a := dgB_dgt (p := y / 100 / 10 % 10) (by omega) (by omega)
  have b := dgB_dgt (p := y / 100 % 10) (by omega) (by omega)
  have c := dgB_dgt (p := y / 10 % 10) (by omega) (by omega)
  have d := dgB_dgt (p := y % 10) (by omega) (by omega)
  have a' := dgt_nat (p := y / 100 / 10 % 10) (by omega) (by omega)
  have b' := dgt_nat (p := y / 100 % 10) (by omega) (by omega)
  have c' := dgt_nat (p := y / 10 % 10) (by omega) (by omega)
  have d' := dgt_nat (p := y % 10) (by omega) (by omega)
  rw [dgV_ok (by unfold twoL; simp [a, b, c, d])]
  unfold dval twoL
  simp only [List.cons_append, List.nil_append, List.foldl_cons, List.foldl_nil, a', b', c', d']
  omega
theorem mo_parts {Y m d h i s : Int} (y0 : 0 ≤ Y) (y1 : Y ≤ 9999) (m1 : 1 ≤ m) (m2 : m ≤ 12) (d1 : 1 ≤ d) (d2 : d ≤ 31) (h0 : 0 ≤ h) (h1 : h ≤ 23) (i0 : 0 ≤ i) (i1 : i ≤ 59) (s0 : 0 ≤ s) (s1 : s ≤ 59) :
    momF (moL [] Y m d h i s) = true ∧ dgV (sub (moL [] Y m d h i s) 0 4) = Y ∧ dgV (sub (moL [] Y m d h i s) 5 2) = m ∧ dgV (sub (moL [] Y m d h i s) 8 2) = d ∧ dgV (sub (moL [] Y m d h i s) 11 2) = h ∧ dgV (sub (moL [] Y m d h i s) 14 2) = i ∧ dgV (sub (moL [] Y m d h i s) 17 2) = s := by
  refine ⟨by unfold momF moL; rfl, ?_, ?_, ?_, ?_, ?_, ?_⟩
  · rw [show sub (moL [] Y m d h i s) 0 4 = twoL (Y / 100) ++ twoL Y by unfold moL; rfl]; exact four_dg y0 y1
  · rw [show sub (moL [] Y m d h i s) 5 2 = twoL m by unfold moL; rfl]; exact dgV_two (by omega) (by omega)
  · rw [show sub (moL [] Y m d h i s) 8 2 = twoL d by unfold moL; rfl]; exact dgV_two (by omega) (by omega)
  · rw [show sub (moL [] Y m d h i s) 11 2 = twoL h by unfold moL; rfl]; exact dgV_two (by omega) (by omega)
  · rw [show sub (moL [] Y m d h i s) 14 2 = twoL i by unfold moL; rfl]; exact dgV_two (by omega) (by omega)
  · rw [show sub (moL [] Y m d h i s) 17 2 = twoL s by unfold moL; rfl]; exact dgV_two (by omega) (by omega)
theorem pl_mo (sg : List UInt8) (hs : sg.all plB = true) (Y m d h i s : Int) : (moL sg Y m d h i s).all plB = true := by
  unfold moL
  refine pl_all (pl_all (pl_all (pl_all (pl_all (pl_all hs ?_) (pl_two _)) (by decide)) (pl_two _)) (by decide)) (pl_two _)
  exact pl_all (pl_all (pl_all (pl_all (pl_all (pl_all (pl_two _) (pl_two _)) (by decide)) (pl_two _)) (by decide)) (pl_two _)) (by decide)
theorem mo_back {S y m d h i s : Int} (hc : IsCiv S 0 y m d h i s 0 0) : momR (moW y m d h i s) = (S, 0) ∧ plW (moW y m d h i s) ∧ (moW y m d h i s).length ≤ 20 := by
  obtain ⟨y1, y2, m1, m2, d1, d2, h0, h1, i0, i1, s0, s1, ct, nn⟩ := isCiv_bd hc
  unfold moW
  by_cases hy : y < 0
  · rw [if_pos hy]
    obtain ⟨p0, p1, p2, p3, p4, p5, p6⟩ := mo_parts (Y := -y) (m := m) (d := d) (h := h) (i := i) (s := s) (by omega) (by omega) m1 m2 d1 d2 h0 h1 i0 i1 s0 s1
    have hneg : negB (moL [45] (-y) m d h i s) = true := by unfold moL; rfl
    have hb : bodyN (moL [45] (-y) m d h i s) = moL [] (-y) m d h i s := by rw [(body_neg hneg).1]; unfold moL; rfl
    refine ⟨?_, ⟨by unfold moL; simp, pl_mo _ (by decide) _ _ _ _ _ _⟩, by unfold moL twoL; simp⟩
    rw [mom_ok (by rw [hb]; exact p0), hneg, hb, p1, p2, p3, p4, p5, p6, momS_neg (by omega) (by omega), show - -y = y by omega, seT_ok ct, ct, nn]
  · rw [if_neg hy]
    obtain ⟨p0, p1, p2, p3, p4, p5, p6⟩ := mo_parts (Y := y) (m := m) (d := d) (h := h) (i := i) (s := s) (by omega) (by omega) m1 m2 d1 d2 h0 h1 i0 i1 s0 s1
    have hneg : negB (moL [] y m d h i s) = false := by
      have := dgt_nat (p := y / 100 / 10 % 10) (by omega) (by omega)
      unfold moL twoL negB
      simp [this]
      omega
    have hb : bodyN (moL [] y m d h i s) = moL [] y m d h i s := body_pos hneg
    refine ⟨?_, ⟨by unfold moL twoL; simp, pl_mo _ (by decide) _ _ _ _ _ _⟩, by unfold moL twoL; simp⟩
    rw [mom_ok (by rw [hb]; exact p0), hneg, hb, p1, p2, p3, p4, p5, p6, momS_pos (by omega), seT_ok ct, ct, nn]
noncomputable def linW (l : Lin) : List (List UInt8) :=
  if l.k = 1 then [atW, momL l.s, offL l.off, if l.dst = true then dstL else stdL, l.abb]
  else [rulW, nbI l.f, toW l.f l.t, moS l.m, ruD l.dk l.dn l.dw, timL l.ti, offL l.rd, offL l.off, if l.dst = true then dstL else stdL, l.abb]
noncomputable def srcW (z : Src) : List (List (List UInt8)) := [zonW, z.nam] :: [basW, offL z.off, z.abb] :: z.lns.map linW
noncomputable def shwR (z : Src) : List UInt8 := textB (srcW z)
theorem dst_pl (b : Bool) : plW (if b = true then dstL else stdL) ∧ (if b = true then dstL else stdL).length = 3 := by
  cases b
  · exact ⟨⟨by decide, by decide⟩, by decide⟩
  · exact ⟨⟨by decide, by decide⟩, by decide⟩
theorem lin_back {l : Lin} (h : OkL l) : ((l.k = 1 ∧ aliE (linW l) = 0 ∧ aliL (linW l) = l ∧ wd (linW l) 0 = atW) ∨ (l.k = 2 ∧ ruE (linW l) = 0 ∧ ruL (linW l) = l ∧ wd (linW l) 0 = rulW ∧ (wd (linW l) 2 = onL → l.t = 1048576))) ∧
    (∀ t ∈ linW l, plW t) ∧ linW l ≠ [] ∧ (linW l).length ≤ 10 ∧ (lineB (linW l)).length ≤ 100 := by
  obtain ⟨hk, ht⟩ := h
  obtain ⟨po, _, _, lo⟩ := pl_off ht.1 ht.2.1
  obtain ⟨pa, la⟩ := pl_abb ht.2.2
  obtain ⟨pd, ld⟩ := dst_pl l.dst
  have tb := tri_back (dst := l.dst) ht
  rcases hk with ⟨k1, e1, e2, e3, e4, e5, e6, e7, e8, s1, s2⟩ | ⟨k2, e1, f1, f2, tt, m1, m2, md, t0, t1, r1, r2⟩
  · obtain ⟨y, m, d, hh, i, s, hc⟩ := civ_of l.s s1 s2
    obtain ⟨mb, pm, lm⟩ := mo_back hc
    rw [← momL_of hc s1 s2] at mb pm lm
    have e : linW l = [atW, momL l.s, offL l.off, if l.dst = true then dstL else stdL, l.abb] := if_pos k1
    rw [e]
    refine ⟨Or.inl ⟨k1, ?_, ?_, rfl⟩, ?_, by simp, by simp, ?_⟩
    · unfold aliE
      rw [if_neg (by simp)]
      simp only [wd, List.getD_cons_succ, List.getD_cons_zero, mb, tb]
      simp
    · unfold aliL
      simp only [wd, List.getD_cons_succ, List.getD_cons_zero, mb, tb]
      cases l
      simp at *
      simp [*]
    · intro t hm
      simp only [List.mem_cons, List.not_mem_nil, or_false] at hm
      rcases hm with rfl | rfl | rfl | rfl | rfl
      · exact ⟨by decide, by decide⟩
      · exact pm
      · exact po
      · exact pd
      · exact pa
    · simp only [lineB, joinW, List.length_append, List.length_cons, List.length_nil, List.cons_ne_nil, if_false, if_true, ld]
      have : atW.length = 2 := rfl
      omega
  · obtain ⟨yb, pt, lt, ton⟩ := yrs_back f1 f2 tt
    obtain ⟨pmo, mm, lmo⟩ := pl_mon m1 m2
    obtain ⟨dd, pdd, ldd⟩ := day_back md
    obtain ⟨te, tv⟩ := tim_back t0 t1
    obtain ⟨pr, re, rv, lr⟩ := pl_off r1 r2
    have lt8 := timL_len l.ti
    have ln := nbI_len7 (n := l.f) (by omega) (by omega)
    have e : linW l = [rulW, nbI l.f, toW l.f l.t, moS l.m, ruD l.dk l.dn l.dw, timL l.ti, offL l.rd, offL l.off, if l.dst = true then dstL else stdL, l.abb] := if_neg (by omega)
    rw [e]
    refine ⟨Or.inr ⟨k2, ?_, ?_, rfl, ton⟩, ?_, by simp, by simp, ?_⟩
    · unfold ruE
      rw [if_neg (by simp)]
      simp only [wd, List.getD_cons_succ, List.getD_cons_zero, yb, mm, dd, te, re, tb]
      rw [if_neg (by simp), if_neg (by omega)]
      simp
      omega
    · unfold ruL
      simp only [wd, List.getD_cons_succ, List.getD_cons_zero, yb, mm, dd, tv, rv, tb]
      cases l
      simp at *
      simp [*]
    · intro t hm
      simp only [List.mem_cons, List.not_mem_nil, or_false] at hm
      rcases hm with rfl | rfl | rfl | rfl | rfl | rfl | rfl | rfl | rfl | rfl
      · exact ⟨by decide, by decide⟩
      · exact pl_nb _
      · exact pt
      · exact pmo
      · exact pdd
      · exact pl_tim _
      · exact pr
      · exact po
      · exact pd
      · exact pa
    · simp only [lineB, joinW, List.length_append, List.length_cons, List.length_nil, List.cons_ne_nil, if_false, if_true, ld, lmo]
      have : rulW.length = 4 := rfl
      omega
end Go.Proofs.YteinjdmkmfeniaaGreatDoor
namespace Go.Proofs.YteinjdmkmfeniaaGreatDoor
set_option linter.unusedVariables false
set_option linter.unusedSimpArgs false
theorem tailN_app (a b : List Lin) : tailN (a ++ b) = tailN a + tailN b := by unfold tailN; simp
theorem tailN_one (l : Lin) : tailN [l] = if l.t = 1048576 then 1 else 0 := by unfold tailN; by_cases h : l.t = 1048576 <;> simp [h]
theorem prs_lines (r : List Lin) : ∀ (done : List Lin) (k : Int) (n : Nat) (z : Src), 2 ≤ n → (done ++ r).length ≤ 16 → tailN (done ++ r) ≤ 4 → (∀ l ∈ r, OkL l) →
    prsT (tokG k (r.map linW)) { z with lns := done } n [] = ({ z with lns := done ++ r }, 0, 0) := by
  induction r with
  | nil => intro done k n z hn _ _ _; rw [List.map_nil, tokG, prsT, if_neg (by omega), List.append_nil]
  | cons l r ih =>
    intro done k n z hn h16 h4 hok
    obtain ⟨hb, hp, _⟩ := lin_back (hok l (by simp))
    have h15 : ¬ 16 ≤ done.length := by simp at h16; omega
    have hs : stE { z with lns := done } n (linW l) = 0 ∧ lnL (linW l) = l := by
      unfold stE
      rw [if_neg (by omega)]
      unfold lnE lnL
      rw [if_neg h15]
      rcases hb with ⟨_, e, el, e0⟩ | ⟨_, e, el, e0, on⟩
      · rw [if_pos e0, if_pos e0]; exact ⟨e, el⟩
      · have hne : wd (linW l) 0 ≠ atW := by rw [e0]; decide
        rw [if_neg hne, if_neg hne, if_pos e0, if_neg]
        · exact ⟨e, el⟩
        · rintro ⟨_, h2, h3⟩
          have h3' : 4 ≤ tailN done := h3
          rw [show done ++ l :: r = done ++ ([l] ++ r) by simp, tailN_app, tailN_app, tailN_one, if_pos (on h2)] at h4
          omega
    rw [List.map_cons, prs_step hp hs.1]
    unfold stS
    rw [if_neg (by omega), hs.2]
    have := ih (done ++ [l]) (k + 1) (n + 1) z (by omega) (by simpa using h16) (by simpa using h4) (fun x hx => hok x (by simp [hx]))
    simpa using this
theorem src_plain {z : Src} (h : OkS z) : (∀ ws ∈ srcW z, ws ≠ [] ∧ ∀ t ∈ ws, plW t) ∧ (∀ ws ∈ srcW z, (lineB ws).length ≤ 100) ∧ (∀ ws ∈ srcW z, ws.length ≤ 10) ∧ (srcW z).length ≤ 18 := by
  obtain ⟨h16, h4, hn, ht, hd, hl⟩ := h
  obtain ⟨pn, ln⟩ := pl_nam hn
  obtain ⟨pa, la⟩ := pl_abb ht.2.2
  obtain ⟨po, _, _, lo⟩ := pl_off ht.1 ht.2.1
  have z1 : zonW.length = 4 := rfl
  have z2 : basW.length = 4 := rfl
  unfold srcW
  refine ⟨?_, ?_, ?_, by simp; omega⟩
  · intro ws hw
    simp only [List.mem_cons, List.mem_map] at hw
    rcases hw with rfl | rfl | ⟨l, hm, rfl⟩
    · refine ⟨by simp, fun t hx => ?_⟩
      simp only [List.mem_cons, List.not_mem_nil, or_false] at hx
      rcases hx with rfl | rfl
      · exact ⟨by decide, by decide⟩
      · exact pn
    · refine ⟨by simp, fun t hx => ?_⟩
      simp only [List.mem_cons, List.not_mem_nil, or_false] at hx
      rcases hx with rfl | rfl | rfl
      · exact ⟨by decide, by decide⟩
      · exact po
      · exact pa
    · obtain ⟨_, a, b, _⟩ := lin_back (hl l hm)
      exact ⟨b, a⟩
  · intro ws hw
    simp only [List.mem_cons, List.mem_map] at hw
    rcases hw with rfl | rfl | ⟨l, hm, rfl⟩
    · simp only [lineB, joinW, List.length_append, List.length_cons, List.length_nil, List.cons_ne_nil, if_false, if_true]; omega
    · simp only [lineB, joinW, List.length_append, List.length_cons, List.length_nil, List.cons_ne_nil, if_false, if_true]; omega
    · exact (lin_back (hl l hm)).2.2.2.2
  · intro ws hw
    simp only [List.mem_cons, List.mem_map] at hw
    rcases hw with rfl | rfl | ⟨l, hm, rfl⟩
    · simp
    · simp
    · exact (lin_back (hl l hm)).2.2.2.1
theorem src_lex {z : Src} (h : OkS z) : lexE (shwR z) = 0 ∧ lexT (shwR z) = tokG 1 (srcW z) ∧ (shwR z).length ≤ 1800 := by
  obtain ⟨a, b, c, d⟩ := src_plain h
  have l1 := text_len 100 (srcW z) b
  have l2 := tokG_len 10 (srcW z) 1 c
  have m1 : (srcW z).length * 100 ≤ 18 * 100 := Nat.mul_le_mul_right _ d
  have m2 : (srcW z).length * (10 + 1) ≤ 18 * 11 := Nat.mul_le_mul_right _ d
  have := lex_text a (by omega) (by omega)
  exact ⟨this.1, this.2, by unfold shwR; omega⟩
theorem prs_shw {z : Src} (h : OkS z) : prsR (shwR z) = (z, 0, 0) := by
  obtain ⟨e, t, _⟩ := src_lex h
  obtain ⟨h16, h4, hn, ht, hd, hl⟩ := h
  obtain ⟨pn, _⟩ := pl_nam hn
  obtain ⟨pa, _⟩ := pl_abb ht.2.2
  obtain ⟨po, oe, ov, _⟩ := pl_off ht.1 ht.2.1
  unfold prsR
  rw [if_neg (by omega), t]
  have e1 : stE src0 0 [zonW, z.nam] = 0 := by
    unfold stE hdE
    rw [if_pos (by decide), if_pos rfl, if_neg (by simp [wd])]
    exact hn
  have e2 : stE { src0 with nam := z.nam } 1 [basW, offL z.off, z.abb] = 0 := by
    unfold stE hdE
    rw [if_pos (by decide), if_neg (by decide), if_neg (by simp [wd]), if_neg (by simp only [wd, List.getD_cons_succ, List.getD_cons_zero]; omega)]
    exact ht.2.2
  unfold srcW
  rw [prs_step (fun t hx => by
    simp only [List.mem_cons, List.not_mem_nil, or_false] at hx
    rcases hx with rfl | rfl
    · exact ⟨by decide, by decide⟩
    · exact pn) e1]
  rw [show stS src0 0 [zonW, z.nam] = { src0 with nam := z.nam } from rfl]
  rw [prs_step (fun t hx => by
    simp only [List.mem_cons, List.not_mem_nil, or_false] at hx
    rcases hx with rfl | rfl | rfl
    · exact ⟨by decide, by decide⟩
    · exact po
    · exact pa) e2]
  rw [show stS { src0 with nam := z.nam } 1 [basW, offL z.off, z.abb] = { z with lns := [] } by
    unfold stS hdS
    rw [if_pos (by decide), if_neg (by decide)]
    simp only [wd, List.getD_cons_succ, List.getD_cons_zero, ov]
    cases z
    simp at *
    simp [src0, hd]]
  have := prs_lines z.lns [] (1 + 1 + 1) (0 + 1 + 1) z (by omega) (by simpa using h16) (by simpa using h4) hl
  simpa using this
theorem num_in {L : List UInt8} {lo hi : Int} (h : numE L lo hi = 0) : lo ≤ numV L lo hi ∧ numV L lo hi ≤ hi := by
  unfold numV
  rw [if_pos h]
  unfold numE at h
  split at h
  · split at h
    · exact absurd h (by decide)
    · omega
  · exact absurd h (by decide)
theorem yrs_in {a b : List UInt8} (h : (yrsR a b).2.2 = 0) : -9999 ≤ (yrsR a b).1 ∧ (yrsR a b).1 ≤ 9999 ∧ ((yrsR a b).2.1 = 1048576 ∧ b = onL ∨ -9999 ≤ (yrsR a b).2.1 ∧ (yrsR a b).2.1 ≤ 9999) := by
  unfold yrsR at *
  split at h
  · rename_i h1; exact absurd h h1
  · rename_i h1
    have n1 := num_in (L := a) (lo := -9999) (hi := 9999) (by omega)
    rw [if_neg h1]
    split at h
    · rename_i h2; rw [if_pos h2]; exact ⟨n1.1, n1.2, Or.inr n1⟩
    · rename_i h2
      rw [if_neg h2]
      split at h
      · rename_i h3; rw [if_pos h3]; exact ⟨n1.1, n1.2, Or.inl ⟨rfl, h3⟩⟩
      · rename_i h3; rw [if_neg h3]; exact ⟨n1.1, n1.2, Or.inr (num_in h)⟩
theorem day_in {t : List UInt8} (h : (dayR t).2.2.2 = 0) : mayD (dayR t).1 (dayR t).2.1 (dayR t).2.2.1 = true := by
  unfold dayR at *
  split at h
  · rename_i h1
    rw [if_pos h1]
    split at h
    · exact absurd h (by decide)
    · rename_i h2
      rw [if_neg h2]
      have := wkd_bd (t.drop 5)
      unfold mayD okW
      rw [if_neg (by simp), if_pos rfl]
      simp
      omega
  · rename_i h1
    rw [if_neg h1]
    split at h
    · rename_i h2
      rw [if_pos h2]
      have := wkd_bd (t.take 3)
      split at h
      · rename_i h3
        rw [if_pos h3]
        split at h
        · rename_i h4
          rw [if_pos h4]
          have := num_in h4
          unfold mayD okW okN
          rw [if_neg (by simp), if_neg (by simp), if_pos (by simp)]
          simp
          omega
        · rename_i h4; exact absurd h h4
      · rename_i h3
        rw [if_neg h3]
        split at h
        · rename_i h5
          rw [if_pos h5]
          split at h
          · rename_i h4
            rw [if_pos h4]
            have := num_in h4
            unfold mayD okW okN
            rw [if_neg (by simp), if_neg (by simp), if_pos (by simp)]
            simp
            omega
          · rename_i h4; exact absurd h h4
        · exact absurd h (by decide)
    · rename_i h2
      rw [if_neg h2]
      split at h
      · rename_i h4
        rw [if_pos h4]
        have := num_in h4
        unfold mayD okN
        rw [if_pos rfl]
        simp
        omega
      · rename_i h4; exact absurd h h4
theorem tim_in {t : List UInt8} (h : timE t = 0) : 0 ≤ timV t ∧ timV t ≤ 86400 := by
  unfold timV
  rw [if_pos h]
  unfold timE at h
  split at h
  · exact absurd h (by decide)
  · split at h
    · exact absurd h (by decide)
    · omega
theorem off_in {t : List UInt8} (h : offE t = 0) : -64800 ≤ offV t ∧ offV t ≤ 64800 := by
  unfold offV
  rw [if_pos h]
  unfold offE at h
  split at h
  · exact absurd h (by decide)
  · split at h
    · exact absurd h (by decide)
    · split at h
      · exact absurd h (by decide)
      · split <;> omega
theorem tri_in {x y a : List UInt8} (h : (triR x y a).2.2.2 = 0) : OkT (triR x y a).1 (triR x y a).2.2.1 := by
  unfold triR at *
  split at h
  · rename_i h1; exact absurd h h1
  · rename_i h1
    rw [if_neg h1]
    split at h
    · exact absurd h (by decide)
    · rename_i h2
      rw [if_neg h2]
      split at h
      · rename_i h3; exact absurd h h3
      · rename_i h3
        rw [if_neg h3]
        have := off_in (t := x) (by omega)
        exact ⟨this.1, this.2, by show abbE a = 0; omega⟩
theorem nu_in {y m d h i s : Int} (hc : ckT y m d h i s 0 = 0) : -377705116800 ≤ nuT y m d h i s ∧ nuT y m d h i s ≤ 253402300799 := by
  rcases (isCiv_back hc).1 with ⟨a, _⟩ | ⟨_, _, _, _, _, _, _, _, _, _, e⟩ | ⟨_, _, a, b, _⟩
  · omega
  · exact absurd e (by decide)
  · exact ⟨a, b⟩
theorem mom_in {t : List UInt8} (h : (momR t).2 = 0) : -377705116800 ≤ (momR t).1 ∧ (momR t).1 ≤ 253402300799 := by
  have key : ∀ (neg : Bool) (y m d hh i s : Int), (momS neg y m d hh i s).2 = 0 → -377705116800 ≤ (momS neg y m d hh i s).1 ∧ (momS neg y m d hh i s).1 ≤ 253402300799 := by
    intro neg y m d hh i s h
    unfold momS at *
    split at h
    · exact absurd h (by decide)
    · rename_i h1
      rw [if_neg h1]
      split at h
      · exact absurd h (by decide)
      · rename_i h2
        rw [if_neg h2]
        have h' : ckT (yrS neg y) m d hh i s 0 = 0 := h
        show -377705116800 ≤ seT (yrS neg y) m d hh i s 0 ∧ seT (yrS neg y) m d hh i s 0 ≤ 253402300799
        rw [seT_ok h']
        exact nu_in h'
  unfold momR at *
  split at h
  · rename_i h1; rw [if_pos h1]; exact key _ _ _ _ _ _ _ h
  · exact absurd h (by decide)
theorem ali_in {w : List (List UInt8)} (h : aliE w = 0) : OkL (aliL w) ∧ (aliL w).t = 0 := by
  unfold aliE at h
  split at h
  · exact absurd h (by decide)
  · split at h
    · rename_i h2; exact absurd h h2
    · rename_i h2
      have := mom_in (t := wd w 1) (by omega)
      exact ⟨⟨Or.inl ⟨rfl, rfl, rfl, rfl, rfl, rfl, rfl, rfl, rfl, this.1, this.2⟩, tri_in h⟩, rfl⟩
theorem ru_in {w : List (List UInt8)} (h : ruE w = 0) : OkL (ruL w) ∧ ((ruL w).t = 1048576 → w.length = 10 ∧ wd w 2 = onL) := by
  unfold ruE at h
  split at h
  · exact absurd h (by decide)
  · rename_i h1
    split at h
    · rename_i h2; exact absurd h h2
    · rename_i h2
      split at h
      · exact absurd h (by decide)
      · rename_i h3
        split at h
        · rename_i h4; exact absurd h h4
        · rename_i h4
          split at h
          · rename_i h5; exact absurd h h5
          · rename_i h5
            split at h
            · rename_i h6; exact absurd h h6
            · rename_i h6
              split at h
              · rename_i h7; exact absurd h h7
              · rename_i h7
                split at h
                · exact absurd h (by decide)
                · rename_i h8
                  obtain ⟨a1, a2, a3⟩ := yrs_in (a := wd w 1) (b := wd w 2) (by omega)
                  obtain ⟨_, m1, m2⟩ := mon_some h3
                  have d := day_in (t := wd w 4) (by omega)
                  have t := tim_in (t := wd w 5) (by omega)
                  have o := off_in (t := wd w 6) (by omega)
                  have r := tri_in (x := wd w 7) (y := wd w 8) (a := wd w 9) (by omega)
                  refine ⟨⟨Or.inr ⟨rfl, rfl, a1, a2, ?_, m1, m2, d, t.1, t.2, o.1, o.2⟩, r⟩, fun ht => ⟨by omega, ?_⟩⟩
                  · show (yrsR (wd w 1) (wd w 2)).2.1 = 1048576 ∨ (-9999 ≤ (yrsR (wd w 1) (wd w 2)).2.1 ∧ (yrsR (wd w 1) (wd w 2)).2.1 ≤ 9999 ∧ (yrsR (wd w 1) (wd w 2)).1 ≤ (yrsR (wd w 1) (wd w 2)).2.1)
                    omega
                  · have ht' : (yrsR (wd w 1) (wd w 2)).2.1 = 1048576 := ht
                    rcases a3 with ⟨_, b⟩ | ⟨b, c⟩
                    · exact b
                    · omega
def RdS (n : Nat) (z : Src) : Prop := z.dst = false ∧ (n < 2 → z.lns = []) ∧ (1 ≤ n → namE z.nam = 0) ∧ (2 ≤ n → OkS z)
theorem st_in {z : Src} {n : Nat} {w : List (List UInt8)} (hi : RdS n z) (h : stE z n w = 0) : RdS (n + 1) (stS z n w) := by
  obtain ⟨i0, i1, i2, i3⟩ := hi
  unfold stE at h
  by_cases hn : n < 2
  · rw [if_pos hn] at h
    unfold stS
    rw [if_pos hn]
    unfold hdE at h
    by_cases h0 : n = 0
    · rw [if_pos h0] at h
      unfold hdS
      rw [if_pos h0]
      split at h
      · exact absurd h (by decide)
      · exact ⟨i0, fun _ => i1 hn, fun _ => h, fun h2 => by omega⟩
    · rw [if_neg h0] at h
      unfold hdS
      rw [if_neg h0]
      split at h
      · exact absurd h (by decide)
      · split at h
        · rename_i h2; exact absurd h h2
        · rename_i h2
          have o := off_in (t := wd w 1) (by omega)
          refine ⟨rfl, fun h3 => by omega, fun _ => i2 (by omega), fun _ => ?_⟩
          have hl := i1 hn
          exact ⟨by show z.lns.length ≤ 16; rw [hl]; decide, by show tailN z.lns ≤ 4; rw [hl]; decide, i2 (by omega), ⟨o.1, o.2, h⟩, rfl, by show ∀ l ∈ z.lns, OkL l; rw [hl]; simp⟩
  · rw [if_neg hn] at h
    unfold stS
    rw [if_neg hn]
    obtain ⟨j1, j2, j3, j4, j5, j6⟩ := i3 (by omega)
    have key : OkL (lnL w) ∧ z.lns.length < 16 ∧ tailN (z.lns ++ [lnL w]) ≤ 4 := by
      unfold lnE at h
      unfold lnL
      rw [tailN_app, tailN_one]
      split at h
      · exact absurd h (by decide)
      · rename_i h1
        split at h
        · rename_i h2
          rw [if_pos h2]
          have a := ali_in h
          exact ⟨a.1, by omega, by rw [if_neg (by rw [a.2]; decide)]; omega⟩
        · rename_i h2
          rw [if_neg h2]
          split at h
          · split at h
            · exact absurd h (by decide)
            · rename_i h4
              have a := ru_in h
              refine ⟨a.1, by omega, ?_⟩
              split
              · rename_i h5
                have := a.2 h5
                have : ¬ 4 ≤ tailN z.lns := fun h6 => h4 ⟨this.1, this.2, h6⟩
                omega
              · omega
          · exact absurd h (by decide)
    refine ⟨i0, fun h3 => by omega, fun _ => i2 (by omega), fun _ => ⟨by simp; omega, key.2.2, j3, j4, j5, ?_⟩⟩
    intro l hl
    rcases List.mem_append.1 hl with h1 | h1
    · exact j6 l h1
    · rw [List.mem_singleton.1 h1]; exact key.1
theorem prsT_in (T : List Tok) : ∀ {z : Src} {n : Nat} {w : List (List UInt8)}, RdS n z → (prsT T z n w).2.2 = 0 → OkS (prsT T z n w).1 ∧ (prsT T z n w).2.1 = 0 := by
  induction T with
  | nil =>
    intro z n w hi h
    rw [prsT] at *
    split at h
    · exact absurd h (by decide)
    · rename_i h2; rw [if_neg h2]; exact ⟨hi.2.2.2 (by omega), rfl⟩
  | cons x r ih =>
    intro z n w hi h
    obtain ⟨t, k⟩ := x
    by_cases ht : t = [10]
    · subst ht
      by_cases he : stE z n w = 0
      · rw [prsT_line he] at *
        exact ih (st_in hi he) h
      · rw [prsT_err he] at h
        exact absurd h he
    · rw [prsT_word ht] at *
      exact ih hi h
theorem prs_in {s : List UInt8} (h : (prsR s).2.2 = 0) : OkS (prsR s).1 ∧ (prsR s).2.1 = 0 ∧ lexE s = 0 := by
  unfold prsR at *
  by_cases he : lexE s = 0
  · rw [if_neg (by omega)] at *
    have := prsT_in (lexT s) (z := src0) (n := 0) (w := []) ⟨rfl, fun _ => rfl, fun h => by omega, fun h => by omega⟩ h
    exact ⟨this.1, this.2, he⟩
  · rw [if_pos he] at h
    exact absurd h he
theorem prsT_no (T : List Tok) : ∀ {z : Src} {n : Nat} {w : List (List UInt8)}, (prsT T z n w).2.2 ≠ 0 → (prsT T z n w).1 = src0 := by
  induction T with
  | nil =>
    intro z n w h
    rw [prsT] at *
    split at h
    · rename_i h2; rw [if_pos h2]
    · exact absurd rfl h
  | cons x r ih =>
    intro z n w h
    obtain ⟨t, k⟩ := x
    by_cases ht : t = [10]
    · subst ht
      by_cases he : stE z n w = 0
      · rw [prsT_line he] at *
        exact ih h
      · rw [prsT_err he]
    · rw [prsT_word ht] at *
      exact ih h
theorem prs_no {s : List UInt8} (h : (prsR s).2.2 ≠ 0) : (prsR s).1 = src0 := by
  unfold prsR at *
  by_cases he : lexE s = 0
  · rw [if_neg (by omega)] at *
    exact prsT_no _ h
  · rw [if_pos he]
end Go.Proofs.YteinjdmkmfeniaaGreatDoor
namespace Go.Proofs.YteinjdmkmfeniaaGreatDoor
set_option linter.unusedVariables false
set_option linter.unusedSimpArgs false
def endN (T : List Tok) : Prop := ∀ x, T.getLast? = some x → x.1 = [10]
theorem endN_nl (T : List Tok) (k : Int) : endN (T ++ [([10], k)]) := by intro x h; simp at h; rw [← h]
theorem lx_end (l : List UInt8) : (lxF l).any = false → endN (lxF l).out := by
  induction l using snocInd with
  | h0 => intro _ x h; simp [lxF, lx0] at h
  | h l c ih =>
    rw [lxF_snoc]
    generalize lxF l = S at *
    have hfl : (lxFl S).any = false → endN (lxFl S).out := by
      intro h
      unfold lxFl at *
      simp at h
      rw [if_pos h.2, List.append_nil]
      exact ih h.1
    unfold lxStep
    split
    · intro _
      unfold lxNl
      by_cases h : (lxFl S).any = true
      · rw [if_pos h]; exact endN_nl _ _
      · rw [if_neg h, List.append_nil]; exact hfl (by simpa using h)
    · split
      · exact ih
      · split
        · exact hfl
        · split
          · exact hfl
          · exact ih
theorem tokL_end (l : List UInt8) : endN (tokL l) := by
  have h := lx_end (l ++ [10])
  rw [lxF_snoc, st_nl (by decide)] at h
  rw [tokL_lx]
  exact h rfl
theorem endN_tail {x y : Tok} {r : List Tok} (h : endN (x :: y :: r)) : endN (y :: r) := by intro u hu; exact h u (by rw [List.getLast?_cons_cons]; exact hu)
theorem hdE_len {n : Nat} {w : List (List UInt8)} (h : hdE n w = 0) : w.length ≤ 10 := by
  unfold hdE at h
  split at h
  · split at h
    · exact absurd h (by decide)
    · omega
  · split at h
    · exact absurd h (by decide)
    · omega
theorem aliE_len {w : List (List UInt8)} (h : aliE w = 0) : w.length ≤ 10 := by
  unfold aliE at h
  split at h
  · exact absurd h (by decide)
  · omega
theorem ruE_len {w : List (List UInt8)} (h : ruE w = 0) : w.length ≤ 10 := by
  unfold ruE at h
  by_cases h1 : w.length ≠ 10
  · rw [if_pos h1] at h; exact absurd h (by decide)
  · omega
theorem stE_len {z : Src} {n : Nat} {w : List (List UInt8)} (h : stE z n w = 0) : w.length ≤ 10 := by
  unfold stE at h
  split at h
  · exact hdE_len h
  · unfold lnE at h
    split at h
    · exact absurd h (by decide)
    · split at h
      · exact aliE_len h
      · split at h
        · split at h
          · exact absurd h (by decide)
          · exact ruE_len h
        · exact absurd h (by decide)
theorem stS_lns (z : Src) (n : Nat) (w : List (List UInt8)) (h : z.lns.length = n - 2) : (stS z n w).lns.length = n + 1 - 2 := by
  unfold stS hdS
  by_cases h1 : n < 2
  · rw [if_pos h1]
    split <;> (show z.lns.length = _; omega)
  · rw [if_neg h1]; simp; omega
theorem prsT_app (T : List Tok) : ∀ {z : Src} {n : Nat} {w : List (List UInt8)}, (prsT T z n w).2.2 = 0 → z.lns.length = n - 2 → endN T →
    ∃ (n' : Nat) (w' : List (List UInt8)), 2 ≤ n' ∧ n ≤ n' ∧ (∀ X, prsT (T ++ X) z n w = prsT X (prsT T z n w).1 n' w') ∧ (w = [] ∨ T ≠ [] → w' = []) ∧ (prsT T z n w).1.lns.length = n' - 2 ∧ T.length + w.length ≤ 11 * (n' - n) + w'.length := by
  induction T with
  | nil =>
    intro z n w h hl _
    rw [prsT] at h ⊢
    split at h
    · exact absurd h (by decide)
    · rename_i h2
      rw [if_neg h2]
      exact ⟨n, w, by omega, Nat.le_refl _, fun X => rfl, fun h => by rcases h with h | h; exact h; exact absurd rfl h, hl, by simp⟩
  | cons x r ih =>
    intro z n w h hl he
    obtain ⟨t, k⟩ := x
    by_cases ht : t = [10]
    · subst ht
      by_cases hs : stE z n w = 0
      · rw [prsT_line hs] at h ⊢
        have her : endN r := by
          cases r with
          | nil => intro x hx; simp at hx
          | cons y r => exact endN_tail he
        obtain ⟨n', w', h1, h2, h3, h4, h5, h6⟩ := ih h (stS_lns z n w hl) her
        have h7 := stE_len hs
        refine ⟨n', w', h1, by omega, fun X => ?_, fun _ => h4 (Or.inl rfl), h5, ?_⟩
        · rw [List.cons_append, prsT_line hs]; exact h3 X
        · simp only [List.length_cons, List.length_nil] at *; omega
      · rw [prsT_err hs] at h
        exact absurd h hs
    · rw [prsT_word ht] at h ⊢
      cases r with
      | nil => exact absurd (he (t, k) rfl) ht
      | cons y r =>
        obtain ⟨n', w', h1, h2, h3, h4, h5, h6⟩ := ih h hl (endN_tail he)
        refine ⟨n', w', h1, h2, fun X => ?_, fun _ => h4 (Or.inr (by simp)), h5, ?_⟩
        · rw [List.cons_append, prsT_word ht]; exact h3 X
        · simp only [List.length_append, List.length_cons, List.length_nil] at *; omega
def oddW : List UInt8 := [111, 100, 100, 119, 111, 114, 100]
def oneB (c : UInt8) : Prop := 32 ≤ c.toNat ∧ c.toNat ≤ 126 ∧ c.toNat ≠ 35
theorem lx_bad (bad : List UInt8) : ∀ {S : LxS}, (∀ c ∈ bad, oneB c) → S.note = false → S.any = true → S.cur ≠ [10] → (∀ c ∈ S.cur, c.toNat ≠ 10) →
    ∃ ws : List (List UInt8), (∀ t ∈ ws, t ≠ [10]) ∧ ws.length ≤ bad.length + 1 ∧ lxFl (bad.foldl lxStep S) = ⟨S.out ++ ws.map (fun t => (t, S.ln)), S.ln, [], false, true⟩ := by
  induction bad with
  | nil =>
    intro S _ hn ha hc _
    unfold lxFl
    by_cases h : S.cur = []
    · exact ⟨[], by simp, by simp, by simp [h, hn, ha]⟩
    · exact ⟨[S.cur], by simpa using hc, by simp, by simp [h, hn, ha]⟩
  | cons c bad ih =>
    intro S hb hn ha hc hz
    obtain ⟨c1, c2, c3⟩ := hb c (by simp)
    rw [List.foldl_cons]
    by_cases h32 : c.toNat = 32
    · have hbl : blankB c = true := by unfold blankB; simp [h32]
      rw [st_blank hbl hn]
      obtain ⟨ws, h1, h2, h3⟩ := ih (S := lxFl S) (fun x hx => hb x (by simp [hx])) hn (by unfold lxFl; simp [ha]) (by unfold lxFl; simp) (by unfold lxFl; simp)
      rw [h3]
      unfold lxFl
      by_cases h : S.cur = []
      · exact ⟨ws, h1, by simp; omega, by simp [h]⟩
      · refine ⟨S.cur :: ws, ?_, by simp; omega, by simp [h]⟩
        intro t ht
        rcases List.mem_cons.1 ht with rfl | ht
        · exact hc
        · exact h1 t ht
    · rw [plB_step ((plB_iff c).2 ⟨by omega, c2, c3⟩) hn]
      obtain ⟨ws, h1, h2, h3⟩ := ih (S := { S with cur := S.cur ++ [c] }) (fun x hx => hb x (by simp [hx])) hn ha (by
          intro e
          have : c ∈ ([10] : List UInt8) := by rw [← e]; simp
          simp at this
          rw [this] at c1
          exact absurd c1 (by decide)) (by
          intro x hx
          rcases List.mem_append.1 hx with h | h
          · exact hz x h
          · rw [List.mem_singleton.1 h]; omega)
      exact ⟨ws, h1, by simp; omega, h3⟩
theorem lx_odd {bad : List UInt8} (hb : ∀ c ∈ bad, oneB c) {S : LxS} (hn : S.note = false) (hc : S.cur = []) :
    ∃ ws : List (List UInt8), (∀ t ∈ ws, t ≠ [10]) ∧ ws.length ≤ bad.length + 1 ∧
      (oddW ++ [32] ++ bad ++ [10]).foldl lxStep S = ⟨S.out ++ ((oddW :: ws).map (fun t => (t, S.ln)) ++ [([10], S.ln)]), S.ln + 1, [], false, false⟩ := by
  rw [List.foldl_append, List.foldl_append, List.foldl_append, lx_word oddW (by decide) hn, hc, List.nil_append]
  have e : ([32] : List UInt8).foldl lxStep { S with cur := oddW } = ⟨S.out ++ [(oddW, S.ln)], S.ln, [], false, true⟩ := by
    rw [List.foldl_cons, List.foldl_nil, st_blank (by decide) (by exact hn)]
    unfold lxFl
    simp [hn, oddW]
  rw [e]
  obtain ⟨ws, h1, h2, h3⟩ := lx_bad bad (S := ⟨S.out ++ [(oddW, S.ln)], S.ln, [], false, true⟩) hb rfl rfl (by simp) (by simp)
  refine ⟨ws, h1, h2, ?_⟩
  rw [List.foldl_cons, List.foldl_nil, st_nl (by decide)]
  generalize bad.foldl lxStep ⟨S.out ++ [(oddW, S.ln)], S.ln, [], false, true⟩ = R at *
  have hl : R.ln = S.ln := by have := congrArg LxS.ln h3; simpa [lxFl] using this
  unfold lxNl
  rw [h3, hl]
  simp
def nlN (s : List UInt8) : Nat := s.countP (fun c => c.toNat == 10)
theorem lx_ln (s : List UInt8) : (lxF s).ln = 1 + nlN s := by
  induction s using snocInd with
  | h0 => simp [lxF, lx0, nlN]
  | h l c ih =>
    have hn : nlN (l ++ [c]) = nlN l + if c.toNat = 10 then 1 else 0 := by unfold nlN; rw [List.countP_append]; by_cases h : c.toNat = 10 <;> simp [h]
    rw [lxF_snoc, hn]
    by_cases h : c.toNat = 10
    · rw [st_nl h, if_pos h]; unfold lxNl; simp only [ih]; omega
    · rw [if_neg h]
      unfold lxStep
      rw [if_neg h]
      split
      · rw [ih]; rfl
      · split
        · unfold lxFl; simp only [ih]; rfl
        · split
          · unfold lxFl; simp only [ih]; rfl
          · simp only [ih]; rfl
def endedL (s : List UInt8) : List UInt8 := if s.getLast? = some 10 then s else s ++ [10]
theorem nl_out {S : LxS} (h : S.cur = []) (ha : S.any = false) : (lxNl S).out = S.out := by unfold lxNl lxFl; simp [h, ha]
theorem ended_state (s : List UInt8) : (lxF (endedL s)).out = tokL s ∧ (lxF (endedL s)).cur = [] ∧ (lxF (endedL s)).note = false ∧ (lxF (endedL s)).any = false := by
  unfold endedL
  split
  · rename_i h
    obtain ⟨l, rfl⟩ := List.getLast?_eq_some_iff.1 h
    rw [tokL_lx, lxF_snoc, st_nl (by decide)]
    generalize lxF l = S
    exact ⟨(nl_out (S := lxNl S) rfl rfl).symm, rfl, rfl, rfl⟩
  · rw [tokL_lx, lxF_snoc, st_nl (by decide)]
    exact ⟨rfl, rfl, rfl, rfl⟩
theorem ended_ln (s : List UInt8) : (lxF (endedL s)).ln = 1 + nlN (endedL s) := lx_ln _
theorem ended_bad {s : List UInt8} (h : badB s = false) : badB (endedL s) = false := by
  unfold endedL
  split
  · exact h
  · rw [bad_app, h]; decide
theorem prs_odd {s bad : List UInt8} (h : (prsR s).2.2 = 0) (hs : s.length ≤ 2000) (hb : bad.length ≤ 100) (hbad : ∀ c ∈ bad, oneB c) :
    prsR (endedL s ++ (oddW ++ [32] ++ bad ++ [10])) = (src0, 1 + (nlN (endedL s) : Int), if 16 ≤ (prsR s).1.lns.length then 1 else 2) := by
  obtain ⟨hok, _, he⟩ := prs_in h
  have hT : lexT s = tokL s := by unfold lexT; rw [if_pos he]
  have hb0 : badB s = false := by
    unfold lexE at he
    split at he
    · exact absurd he (by decide)
    · split at he
      · exact absurd he (by decide)
      · split at he
        · exact absurd he (by decide)
        · rename_i h3; simpa using h3
  have hp : prsR s = prsT (tokL s) src0 0 [] := by unfold prsR; rw [if_neg (by omega), hT]
  rw [hp] at h hok ⊢
  obtain ⟨n', w', k1, k2, k3, k4, k5, k6⟩ := prsT_app (tokL s) h rfl (tokL_end s)
  have hw : w' = [] := k4 (Or.inl rfl)
  subst hw
  have h16 := hok.1
  obtain ⟨s1, s2, s3, s4⟩ := ended_state s
  obtain ⟨ws, q1, q2, q3⟩ := lx_odd hbad s3 s2
  have hlen : (endedL s).length ≤ 2001 := by
    unfold endedL
    split
    · omega
    · simp; omega
  have htok : tokL (endedL s ++ (oddW ++ [32] ++ bad ++ [10])) = tokL s ++ ((oddW :: ws).map (fun t => (t, (lxF (endedL s)).ln)) ++ [([10], (lxF (endedL s)).ln)]) := by
    rw [tokL_lx]
    unfold lxF at *
    rw [List.foldl_append, q3, s1]
    simp [lxNl, lxFl]
  have hbd : badB (endedL s ++ (oddW ++ [32] ++ bad ++ [10])) = false := by
    rw [bad_app, ended_bad hb0, bad_app, bad_app]
    have hx : badB bad = false := by
      unfold badB
      rw [List.any_eq_false]
      intro c hc
      have := hbad c hc
      unfold oneB at this
      unfold oddB
      simp
      omega
    rw [hx]
    decide
  have hl2 : (oddW ++ [32] ++ bad ++ [10]).length ≤ 109 := by simp [oddW]; omega
  have hlex := lex_ok (l := endedL s ++ (oddW ++ [32] ++ bad ++ [10])) (by rw [List.length_append]; omega) (by
      rw [htok]
      simp only [List.length_append, List.length_map, List.length_cons, List.length_nil] at *
      omega) hbd
  have hne : stE (prsT (tokL s) src0 0 []).1 n' (oddW :: ws) = if 16 ≤ (prsT (tokL s) src0 0 []).1.lns.length then 1 else 2 := by
    unfold stE
    rw [if_neg (by omega)]
    unfold lnE
    split
    · rfl
    · rw [if_neg (by simp [wd]; decide), if_neg (by simp [wd]; decide)]
  unfold prsR
  rw [if_neg (by omega), hlex.2, htok, k3, prsT_words (oddW :: ws) (by
    intro t ht
    rcases List.mem_cons.1 ht with rfl | ht
    · decide
    · exact q1 t ht), List.nil_append, prsT_err (by rw [hne]; split <;> decide), hne, ended_ln]
end Go.Proofs.YteinjdmkmfeniaaGreatDoor
namespace Go.Proofs.YteinjdmkmfeniaaGreatDoor
set_option linter.unusedVariables false
set_option linter.unusedSimpArgs false
def srcV (z : Src) (A : Option Go.Addr) (c : Nat) : Go.Value := .agg #[.string (bs z.nam), .int .i64 z.off, .bool z.dst, .string (bs z.abb), .slice A z.lns.length c]
def landL : List UInt8 := [122, 111, 110, 101, 32, 77, 105, 100, 47, 76, 97, 110, 100, 10, 98, 97, 115, 101, 32, 43, 48, 49, 58, 48, 48, 32, 67, 69, 84, 10, 114, 117, 108, 101, 32, 49, 57, 57, 54, 32, 111, 110, 32, 109, 97, 114, 32, 108, 97, 115, 116, 45, 115, 117, 110, 32, 48, 49, 58, 48, 48, 32, 43, 48, 48, 58, 48, 48, 32, 43, 48, 50, 58, 48, 48, 32, 100, 115, 116, 32, 67, 69, 83, 84, 10, 114, 117, 108, 101, 32, 49, 57, 57, 54, 32, 111, 110, 32, 111, 99, 116, 32, 108, 97, 115, 116, 45, 115, 117, 110, 32, 48, 49, 58, 48, 48, 32, 43, 48, 48, 58, 48, 48, 32, 43, 48, 49, 58, 48, 48, 32, 115, 116, 100, 32, 67, 69, 84, 10]
def midL : List UInt8 := [77, 105, 100, 47, 76, 97, 110, 100]
def landZ : Src := ⟨midL, 3600, false, [67, 69, 84], [⟨2, 0, 1996, 1048576, 3, 1, 0, 7, 3600, 0, 7200, true, [67, 69, 83, 84]⟩, ⟨2, 0, 1996, 1048576, 10, 1, 0, 7, 3600, 0, 3600, false, [67, 69, 84]⟩]⟩
def oddZ : List UInt8 := [122, 111, 110, 101, 32, 65, 10, 114, 117, 108, 101, 32, 49, 32, 111, 110, 32, 106, 97, 110, 32, 49, 32, 48, 48, 58, 48, 48, 32, 43, 48, 48, 58, 48, 48, 32, 43, 48, 48, 58, 48, 48, 32, 115, 116, 100, 32, 65]
theorem land_prs : prsR landL = (landZ, 0, 0) := by kernel_rfl
theorem odd_prs : prsR oddZ = (src0, 2, 2) := by kernel_rfl
theorem nb_1996 : nbI 1996 = [49, 57, 57, 54] := by
  rw [nbI_big (by decide), show (1996 : Int) / 10 = 199 by decide, nbI_big (by decide), show (199 : Int) / 10 = 19 by decide, nbI_big (by decide), show (19 : Int) / 10 = 1 by decide, nbI_small (by decide) (by decide)]
  decide
theorem land_ok : OkS landZ := by
  have := (prs_in (s := landL) (by rw [land_prs])).1
  rwa [land_prs] at this
theorem land_shw : shwR landZ = landL := by
  have e1 : linW ⟨2, 0, 1996, 1048576, 3, 1, 0, 7, 3600, 0, 7200, true, [67, 69, 83, 84]⟩ = [rulW, [49, 57, 57, 54], onL, moS 3, ruD 1 0 7, timL 3600, offL 0, offL 7200, dstL, [67, 69, 83, 84]] := by
    unfold linW
    rw [if_neg (by decide)]
    simp only [nb_1996]
    rfl
  have e2 : linW ⟨2, 0, 1996, 1048576, 10, 1, 0, 7, 3600, 0, 3600, false, [67, 69, 84]⟩ = [rulW, [49, 57, 57, 54], onL, moS 10, ruD 1 0 7, timL 3600, offL 0, offL 3600, stdL, [67, 69, 84]] := by
    unfold linW
    rw [if_neg (by decide)]
    simp only [nb_1996]
    rfl
  unfold shwR srcW landZ
  simp only [List.map_cons, List.map_nil]
  rw [e1, e2]
  decide +kernel
end Go.Proofs.YteinjdmkmfeniaaGreatDoor
namespace Go.Proofs.YteinjdmkmfeniaaGreatDoor
set_option linter.unusedVariables false
set_option linter.unusedSimpArgs false
open Go.ChangeShapes Go.WideShapes Go.ChangeAt Go.RowKit
theorem rows_two (w : World) (a b : Obj) : ((w.alloc a).alloc b).heap[w.heap.size]? = some a ∧ ((w.alloc a).alloc b).heap[w.heap.size + 1]? = some b := by
  have e : (w.alloc a).heap.size = w.heap.size + 1 := by simp
  have h := heap_alloc_new (w.alloc a) b
  rw [e] at h
  refine ⟨?_, h⟩
  rw [Below.heap_alloc (w.alloc a) b _ (by omega)]
  exact heap_alloc_new w a
def linV (l : Lin) : List Value :=
  [.int .i64 l.k, .int .i64 l.s, .int .i64 l.f, .int .i64 l.t, .int .i64 l.m, .int .i64 l.dk, .int .i64 l.dn, .int .i64 l.dw, .int .i64 l.ti, .int .i64 l.rd, .int .i64 l.off, .bool l.dst, strV l.abb]
def linVs (l : List Lin) : List Value := l.flatMap linV
theorem linVs_snoc (T : List Lin) (l : Lin) : linVs (T ++ [l]) = linVs T ++ linV l := by unfold linVs; simp
theorem linVs_at (T : List Lin) : ∀ (k : Nat) (h : k < T.length) (j : Nat), j < 13 → (linVs T)[k * 13 + j]? = (linV T[k])[j]? := by
  induction T with
  | nil => intro k h; simp at h
  | cons t T ih =>
    intro k h j hj
    have e : linVs (t :: T) = linV t ++ linVs T := by unfold linVs; rw [List.flatMap_cons]
    have hl : (linV t).length = 13 := rfl
    rw [e]
    cases k with
    | zero => rw [List.getElem?_append_left (by omega)]; simp
    | succ k =>
      rw [List.getElem?_append_right (by omega), hl, show (k + 1) * 13 + j - 13 = k * 13 + j by omega, ih k (by simpa using h) j hj]
      simp
theorem Rd.lin {w : World} {A : Option Addr} {T : List Lin} (h : Rd w A (linVs T)) {k : Nat} (hk : k < T.length) :
    ∃ b o, A = some ⟨b, o, none⟩ ∧ b < w.heap.size ∧ ∀ i (hi : i < T.length), w.cell? ⟨b, o + i * 13, none⟩ = some (.int .i64 T[i].k) ∧ w.cell? ⟨b, o + i * 13 + 1, none⟩ = some (.int .i64 T[i].s) ∧ w.cell? ⟨b, o + i * 13 + 2, none⟩ = some (.int .i64 T[i].f) ∧
      w.cell? ⟨b, o + i * 13 + 3, none⟩ = some (.int .i64 T[i].t) ∧ w.cell? ⟨b, o + i * 13 + 4, none⟩ = some (.int .i64 T[i].m) ∧ w.cell? ⟨b, o + i * 13 + 5, none⟩ = some (.int .i64 T[i].dk) ∧ w.cell? ⟨b, o + i * 13 + 6, none⟩ = some (.int .i64 T[i].dn) ∧
      w.cell? ⟨b, o + i * 13 + 7, none⟩ = some (.int .i64 T[i].dw) ∧ w.cell? ⟨b, o + i * 13 + 8, none⟩ = some (.int .i64 T[i].ti) ∧ w.cell? ⟨b, o + i * 13 + 9, none⟩ = some (.int .i64 T[i].rd) ∧ w.cell? ⟨b, o + i * 13 + 10, none⟩ = some (.int .i64 T[i].off) ∧
      w.cell? ⟨b, o + i * 13 + 11, none⟩ = some (.bool T[i].dst) ∧ w.cell? ⟨b, o + i * 13 + 12, none⟩ = some (.string (bs T[i].abb)) := by
  have h0 := linVs_at T k hk 0 (by decide)
  obtain ⟨b, o, hA, hb, _⟩ := h _ _ h0
  refine ⟨b, o, hA, hb, fun i hi => ?_⟩
  have key : ∀ j (hj : j < 13) u, (linV T[i])[j]? = some u → w.cell? ⟨b, o + i * 13 + j, none⟩ = some u := by
    intro j hj u hu
    have := h.at_ hA ((linVs_at T i hi j hj).trans hu)
    rwa [← Nat.add_assoc] at this
  exact ⟨key 0 (by decide) _ rfl, key 1 (by decide) _ rfl, key 2 (by decide) _ rfl, key 3 (by decide) _ rfl, key 4 (by decide) _ rfl, key 5 (by decide) _ rfl, key 6 (by decide) _ rfl, key 7 (by decide) _ rfl, key 8 (by decide) _ rfl, key 9 (by decide) _ rfl, key 10 (by decide) _ rfl, key 11 (by decide) _ rfl, key 12 (by decide) _ rfl⟩
def RetSrc (z : Src) (n E : Int) (w : World) (r : Ending) (w' : World) : Prop :=
  ∃ (A : Option Addr) (c : Nat), r = .returned (.tuple #[.agg #[.string (bs z.nam), .int .i64 z.off, .bool z.dst, .string (bs z.abb), .slice A z.lns.length c], .int .i64 n, .int .i64 E]) ∧ Rd w' A (linVs z.lns) ∧ Below w.heap.size w w'
set_option maxHeartbeats 3200000 in
set_option maxRecDepth 100000 in
theorem rSame_any (z : Src) (A B : Option Addr) (c d : Nat) (w : World) (hn : z.nam.length ≤ 1000000000000) (hl : z.lns.length ≤ 1000000000000) (hA : Rd w A (linVs z.lns)) (hB : Rd w B (linVs z.lns)) :
    Calls Tryz.prog 9 #[.agg #[.string (bs z.nam), .int .i64 z.off, .bool z.dst, .string (bs z.abb), .slice A z.lns.length c], .agg #[.string (bs z.nam), .int .i64 z.off, .bool z.dst, .string (bs z.abb), .slice B z.lns.length d]] w
      fun e w' => e = .returned (.bool true) ∧ Below w.heap.size w w' := by
  have HA := Lib.hid hA
  have HB := Lib.hid hB
  clear hA hB
  have hlZ : ((z.lns.length : Int) != (z.lns.length : Int)) = false := by simp
  go_enter Tryz.func9, Tryz.ntmps9
  go_wp2
  go_loopw [5] (fun i wr => ∃ k : Nat, k ≤ z.lns.length ∧ i = .int .i64 (k : Int) ∧ wr.heap[w.heap.size]? = some (.cells #[.string (bs z.nam), .int .i64 z.off, .bool z.dst, .string (bs z.abb), .slice A z.lns.length c] 26 (0, 0)) ∧
      wr.heap[w.heap.size + 1]? = some (.cells #[.string (bs z.nam), .int .i64 z.off, .bool z.dst, .string (bs z.abb), .slice B z.lns.length d] 26 (0, 0)) ∧ Below w.heap.size w wr) (fun i _ => z.lns.length - (intOf i).toNat)
  case atStart => exact ⟨0, by omega, rfl, (rows_two w _ _).1, (rows_two w _ _).2, ((Below.refl _ _).alloc (Nat.le_refl _) _).alloc (by simp) _⟩
  case round =>
    obtain ⟨k, hk, rfl, hA1, hC1, hB1⟩ := hrel
    obtain ⟨V20, rfl⟩ : ∃ V, V = wr := ⟨_, rfl⟩
    have hR := HA.out.below hB1 (Nat.le_refl _)
    have hR' := HB.out.below hB1 (Nat.le_refl _)
    have A1 := Lib.hid hA1
    have C1 := Lib.hid hC1
    have B20 := Lib.hid hB1
    clear hA1 hC1 hB1
    by_cases hlt : k < z.lns.length
    · obtain ⟨b, o, rfl, hb, hc⟩ := hR.lin hlt
      obtain ⟨b', o', rfl, hb', hc'⟩ := hR'.lin hlt
      obtain ⟨a0, a1, a2, a3, a4, a5, a6, a7, a8, a9, a10, a11, a12⟩ := hc k hlt
      obtain ⟨d0, d1, d2, d3, d4, d5, d6, d7, d8, d9, d10, d11, d12⟩ := hc' k hlt
      clear hc hc' hR hR' HA HB
      generalize z.lns[k] = l at *
      generalize hN : z.lns.length = N at *
      generalize bs z.nam = n1 at *
      generalize bs z.abb = n2 at *
      generalize bs l.abb = n3 at *
      generalize z.off = z1 at *
      generalize z.dst = z2 at *
      obtain ⟨l0, l1, l2, l3, l4, l5, l6, l7, l8, l9, l10, l11, l12⟩ := l
      simp only at *
      
      have A1_0 : V20.cell? ⟨w.heap.size, 0, none⟩ = some (.string n1) := cell_of_row _ _ _ _ _ _ A1.out
      have A1_1 : V20.cell? ⟨w.heap.size, 1, none⟩ = some (.int .i64 z1) := cell_of_row _ _ _ _ _ _ A1.out
      have A1_2 : V20.cell? ⟨w.heap.size, 2, none⟩ = some (.bool z2) := cell_of_row _ _ _ _ _ _ A1.out
      have A1_3 : V20.cell? ⟨w.heap.size, 3, none⟩ = some (.string n2) := cell_of_row _ _ _ _ _ _ A1.out
      have A1_4 : V20.cell? ⟨w.heap.size, 4, none⟩ = some (.slice (some ⟨b,o,none⟩) N c) := cell_of_row _ _ _ _ _ _ A1.out
      have zA1 := lt_of_heap A1.out
      have C1_0 : V20.cell? ⟨w.heap.size + 1, 0, none⟩ = some (.string n1) := cell_of_row _ _ _ _ _ _ C1.out
      have C1_1 : V20.cell? ⟨w.heap.size + 1, 1, none⟩ = some (.int .i64 z1) := cell_of_row _ _ _ _ _ _ C1.out
      have C1_2 : V20.cell? ⟨w.heap.size + 1, 2, none⟩ = some (.bool z2) := cell_of_row _ _ _ _ _ _ C1.out
      have C1_3 : V20.cell? ⟨w.heap.size + 1, 3, none⟩ = some (.string n2) := cell_of_row _ _ _ _ _ _ C1.out
      have C1_4 : V20.cell? ⟨w.heap.size + 1, 4, none⟩ = some (.slice (some ⟨b',o',none⟩) N d) := cell_of_row _ _ _ _ _ _ C1.out
      have zC1 := lt_of_heap C1.out
      go_wp2_with fail
      go_region
      go_wp2
      go_roundw
      case rel => exact ⟨k + 1, by omega, by go_num, A1.out, C1.out, B20.out.drew⟩
      case measure => simp [intOf]; omega
    · obtain rfl : k = z.lns.length := by omega
      clear hR hR' HA HB
      
      have A1_0 : V20.cell? ⟨w.heap.size, 0, none⟩ = some (.string (bs z.nam)) := cell_of_row _ _ _ _ _ _ A1.out
      have A1_1 : V20.cell? ⟨w.heap.size, 1, none⟩ = some (.int .i64 z.off) := cell_of_row _ _ _ _ _ _ A1.out
      have A1_2 : V20.cell? ⟨w.heap.size, 2, none⟩ = some (.bool z.dst) := cell_of_row _ _ _ _ _ _ A1.out
      have A1_3 : V20.cell? ⟨w.heap.size, 3, none⟩ = some (.string (bs z.abb)) := cell_of_row _ _ _ _ _ _ A1.out
      have A1_4 : V20.cell? ⟨w.heap.size, 4, none⟩ = some (.slice A z.lns.length c) := cell_of_row _ _ _ _ _ _ A1.out
      have zA1 := lt_of_heap A1.out
      have C1_0 : V20.cell? ⟨w.heap.size + 1, 0, none⟩ = some (.string (bs z.nam)) := cell_of_row _ _ _ _ _ _ C1.out
      have C1_1 : V20.cell? ⟨w.heap.size + 1, 1, none⟩ = some (.int .i64 z.off) := cell_of_row _ _ _ _ _ _ C1.out
      have C1_2 : V20.cell? ⟨w.heap.size + 1, 2, none⟩ = some (.bool z.dst) := cell_of_row _ _ _ _ _ _ C1.out
      have C1_3 : V20.cell? ⟨w.heap.size + 1, 3, none⟩ = some (.string (bs z.abb)) := cell_of_row _ _ _ _ _ _ C1.out
      have C1_4 : V20.cell? ⟨w.heap.size + 1, 4, none⟩ = some (.slice B z.lns.length d) := cell_of_row _ _ _ _ _ _ C1.out
      have zC1 := lt_of_heap C1.out
      go_wp2
      go_ret
      exact ⟨rfl, B20.out⟩
end Go.Proofs.YteinjdmkmfeniaaGreatDoor
namespace Go.Proofs.YteinjdmkmfeniaaGreatDoor
set_option linter.unusedVariables false
open Go.ChangeShapes Go.WideShapes Go.ChangeAt Go.RowKit
structure SB (z : Src) : Prop where
  lns : z.lns.length ≤ 9223372036854775807
  nam : z.nam.length ≤ 9223372036854775807
  abb : z.abb.length ≤ 9223372036854775807
  each : ∀ l ∈ z.lns, l.abb.length ≤ 9223372036854775807
  dn : ∀ l ∈ z.lns, -9223372036854775808 ≤ l.dn ∧ l.dn ≤ 9223372036854775807
theorem abb_len {L : List UInt8} (h : abbE L = 0) : L.length ≤ 6 := by
  unfold abbE at h
  split at h
  · rename_i k; exact k.2.2
  · cases h
theorem nam_len {L : List UInt8} (h : namE L = 0) : L.length ≤ 32 := by
  unfold namE at h
  split at h
  · rename_i k; exact k.2.1
  · cases h
theorem SB.of {z : Src} (h : OkS z) : SB z := by
  obtain ⟨h1, _, h2, h3, _, h4⟩ := h
  refine ⟨by omega, by have := nam_len h2; omega, by have := abb_len h3.2.2; omega, fun l hl => ?_, fun l hl => ?_⟩
  · have := abb_len (h4 l hl).2.2.2
    omega
  · rcases (h4 l hl).1 with ⟨_, _, _, _, _, e, _⟩ | ⟨_, _, _, _, _, _, _, e, _⟩
    · omega
    · rcases mayD_parts e with ⟨_, e, _⟩ | ⟨_, _, e⟩ | ⟨_, _, e⟩ | ⟨_, _, e⟩ <;> omega
theorem SB.none : SB src0 := ⟨by simp [src0], by simp [src0], by simp [src0], by intro l hl; simp [src0] at hl, by intro l hl; simp [src0] at hl⟩
theorem shw_len {z : Src} (h : OkS z) : (shwR z).length ≤ 9223372036854775807 := by have := (src_lex h).2.2; omega
set_option maxRecDepth 100000 in
theorem land_len : landL.length ≤ 9223372036854775807 := by decide
end Go.Proofs.YteinjdmkmfeniaaGreatDoor
namespace Go.Proofs.YteinjdmkmfeniaaGreatDoor
set_option linter.unusedVariables false
set_option linter.unusedSimpArgs false
open Go.ChangeShapes Go.WideShapes Go.ChangeAt Go.RowKit
def linA (l : Lin) : Value := .agg #[.int .i64 l.k, .int .i64 l.s, .int .i64 l.f, .int .i64 l.t, .int .i64 l.m, .int .i64 l.dk, .int .i64 l.dn, .int .i64 l.dw, .int .i64 l.ti, .int .i64 l.rd, .int .i64 l.off, .bool l.dst, .string (bs l.abb)]
def lin0 : Lin := ⟨0, 0, 0, 0, 0, 0, 0, 0, 0, 0, 0, false, []⟩
theorem five_of {ws : List (List UInt8)} (h : ws.length = 5) : ∃ a b c d e, ws = [a, b, c, d, e] := by
  match ws, h with
  | [a, b, c, d, e], _ => exact ⟨a, b, c, d, e, rfl⟩
end Go.Proofs.YteinjdmkmfeniaaGreatDoor
namespace Go.Proofs.YteinjdmkmfeniaaGreatDoor
set_option linter.unusedVariables false
set_option linter.unusedSimpArgs false
open Go.ChangeShapes Go.WideShapes Go.ChangeAt Go.RowKit
structure LnW (w V : World) (zb lb : Nat) (cs : Array Value) : Prop where
  z : V.heap[zb]? = some (.cells #[.int .i64 0, .int .i64 0, .int .i64 0, .int .i64 0, .int .i64 0, .int .i64 0, .int .i64 0, .int .i64 0, .int .i64 0, .int .i64 0, .int .i64 0, .bool false, .string ⟨#[]⟩] 41 (0, 0))
  l : V.heap[lb]? = some (.cells cs 41 (0, 0))
  bel : Below w.heap.size w V
  hz : w.heap.size ≤ zb
  hl : w.heap.size ≤ lb
  ne : zb ≠ lb
section
variable {w V V' : World} {zb lb : Nat} {cs : Array Value}
theorem LnW.call (h : LnW w V zb lb cs) (hb : Below V.heap.size V V') : LnW w V' zb lb cs :=
  ⟨(hb.block zb (Array.getElem?_eq_some_iff.1 h.z).1).trans h.z, (hb.block lb (Array.getElem?_eq_some_iff.1 h.l).1).trans h.l, h.bel.trans (hb.mono h.bel.size), h.hz, h.hl, h.ne⟩
theorem LnW.drew (h : LnW w V zb lb cs) : LnW w V.drew zb lb cs := ⟨h.z, h.l, h.bel.drew, h.hz, h.hl, h.ne⟩
theorem LnW.set (h : LnW w V zb lb cs) (j : Nat) (v : Value) {cs' : Array Value} (e : cs.setIfInBounds j v = cs') : LnW w (V.setCell ⟨lb, j, none⟩ v) zb lb cs' := by
  subst e
  exact ⟨row_other1 h.ne h.z j v, row_set1 h.l j v, h.bel.setCell (by exact h.hl) _, h.hz, h.hl, h.ne⟩
theorem LnW.cell (h : LnW w V zb lb cs) (j : Nat) {u : Value} (hj : cs[j]? = some u) : V.cell? ⟨lb, j, none⟩ = some u := by rw [Lib.cell_of_heap h.l]; exact hj
end
end Go.Proofs.YteinjdmkmfeniaaGreatDoor
namespace Go.Proofs.YteinjdmkmfeniaaGreatDoor
set_option linter.unusedVariables false
set_option linter.unusedSimpArgs false
open Go.ChangeShapes Go.WideShapes Go.ChangeAt Go.RowKit
theorem infoLin : (Tryz.prog.info? 41).map (fun i => (i.zero, i.size, i.bytes)) = some (some (.agg #[.int .i64 0, .int .i64 0, .int .i64 0, .int .i64 0, .int .i64 0, .int .i64 0, .int .i64 0, .int .i64 0, .int .i64 0, .int .i64 0, .int .i64 0, .bool false, .string ⟨#[]⟩]), 13, 112) := by kernel_rfl
structure SrH (B : Nat) (w0 w : World) (zb : Nat) (z : Src) (v : Value) : Prop where
  row : w.heap[zb]? = some (.cells #[.string (bs z.nam), .int .i64 z.off, .bool z.dst, .string (bs z.abb), v] 26 (0, 0))
  own : w.ownsRow B 41 13 v z.lns.length (linVs z.lns)
  bz : B ≤ zb
  bel : Below B w0 w
  sz : B ≤ w.heap.size
section
variable {B : Nat} {w0 w w' : World} {zb : Nat} {z : Src} {v : Value}
theorem SrH.lt (h : SrH B w0 w zb z v) : zb < w.heap.size := (Array.getElem?_eq_some_iff.1 h.row).1
theorem SrH.vz (h : SrH B w0 w zb z v) : v.ownBlock ≠ some zb := own_kind h.own h.row (fun c fz e => by injection e with _ e2; exact absurd e2 (by decide))
theorem SrH.call (h : SrH B w0 w zb z v) (hb : Below w.heap.size w w') : SrH B w0 w' zb z v :=
  ⟨(hb.block zb h.lt).trans h.row, own_up h.own hb, h.bz, h.bel.trans (hb.mono h.sz), Nat.le_trans h.sz hb.size⟩
theorem SrH.drew (h : SrH B w0 w zb z v) : SrH B w0 w.drew zb z v := ⟨h.row, h.own, h.bz, h.bel.drew, h.sz⟩
theorem SrH.alloc (h : SrH B w0 w zb z v) (o : Obj) : SrH B w0 (w.alloc o) zb z v := h.call ((Below.refl _ w).alloc (Nat.le_refl _) _)
theorem SrH.set (h : SrH B w0 w zb z v) (j : Nat) (a : Value) (z' : Src) (hr : (#[.string (bs z.nam), .int .i64 z.off, .bool z.dst, .string (bs z.abb), v] : Array Value).setIfInBounds j a = #[.string (bs z'.nam), .int .i64 z'.off, .bool z'.dst, .string (bs z'.abb), v]) (hl : z'.lns = z.lns) :
    SrH B w0 (w.setCell ⟨zb, j, none⟩ a) zb z' v := by
  refine ⟨by rw [row_set1 h.row, hr], ?_, h.bz, h.bel.setCell (by exact h.bz) _, ?_⟩
  · rw [hl]; exact own_stay h.own (fun g hg => row_other1 (fun e => h.vz (by rw [hg, e])) rfl j a)
  · have e := h.sz
    simpa [World.setCell] using e
theorem SrH.app (h : SrH B w0 w zb z v) {w1 : World} {x : Obj} {g cap : Nat} (l : Lin) (hown : w1.ownsRow B 41 13 (.slice (some ⟨g, 0, none⟩) (z.lns.length + 1) cap) (z.lns.length + 1) (linVs z.lns ++ linV l)) (hg : (w.alloc x).grownBy w1 v.ownBlock) :
    w1.heap[zb]? = some (.cells #[.string (bs z.nam), .int .i64 z.off, .bool z.dst, .string (bs z.abb), v] 26 (0, 0)) ∧ SrH B w0 (w1.setCell ⟨zb, 4, none⟩ (.slice (some ⟨g, 0, none⟩) (z.lns.length + 1) cap)) zb { z with lns := z.lns ++ [l] } (.slice (some ⟨g, 0, none⟩) (z.lns.length + 1) cap) := by
  have r1 := (app_keep hg h.lt h.vz).trans h.row
  have v1 : w1.ownsRow B 41 13 (.slice (some ⟨g, 0, none⟩) (z.lns.length + 1) cap) (z.lns ++ [l]).length (linVs (z.lns ++ [l])) := by
    rw [linVs_snoc, List.length_append]
    exact hown
  have vM : Value.ownBlock (.slice (some ⟨g, 0, none⟩) (z.lns.length + 1) cap) ≠ some zb := own_kind v1 r1 (fun c fz e => by injection e with _ e2; exact absurd e2 (by decide))
  have hs := hg.size
  have hs2 : (w.alloc x).heap.size = w.heap.size + 1 := by simp
  have hs3 := h.sz
  refine ⟨r1, by rw [row_set1 r1]; rfl, own_stay v1 (fun k hk => row_other1 (fun e => vM (by rw [hk, e])) rfl 4 _), h.bz, (bel_append h.bel h.sz h.own hg).setCell (by exact h.bz) _, ?_⟩
  have e : B ≤ w1.heap.size := by omega
  simpa [World.setCell] using e
end
theorem wdr_at (ws : List (List UInt8)) (k : Nat) (h : k < ws.length) : wd ws k = ws[k] := by unfold wd; simp [List.getD, List.getElem?_eq_getElem h]
end Go.Proofs.YteinjdmkmfeniaaGreatDoor
namespace Go.Proofs.YteinjdmkmfeniaaGreatDoor
set_option linter.unusedVariables false
set_option linter.unusedSimpArgs false
open Go.ChangeShapes Go.WideShapes Go.ChangeAt Go.RowKit
theorem SrH.setRow {B : Nat} {w0 w : World} {zb : Nat} {z : Src} {v : Value} (h : SrH B w0 w zb z v) {k : Nat} (cs : Array Value) (hk : k ≠ zb) (hv : v.ownBlock ≠ some k) (hB : B ≤ k) : SrH B w0 (w.setRow k cs) zb z v := by
  refine ⟨row_otherR (Ne.symm hk) h.row cs, own_stay h.own (fun g hg => row_otherR (fun e => hv (by rw [hg, e])) rfl cs), h.bz, keepRow h.bel hB cs, ?_⟩
  have e := h.sz
  simpa [World.setRow] using e
end Go.Proofs.YteinjdmkmfeniaaGreatDoor
namespace Go.Proofs.YteinjdmkmfeniaaGreatDoor
set_option linter.unusedVariables false
set_option linter.unusedSimpArgs false
open Go.ChangeShapes Go.WideShapes Go.ChangeAt Go.RowKit
def lastW (T : List Tok) : Bool := match T.getLast? with | some t => t.1 != [10] | none => false
theorem lastW_snoc (T : List Tok) (t : Tok) : lastW (T ++ [t]) = (t.1 != [10]) := by unfold lastW; simp
def goodT (T : List Tok) : Prop := ∀ k (h : k < T.length), T[k].1 = [10] → lastW (T.take k) = true
theorem goodT_snoc {T : List Tok} {t : Tok} (h : goodT T) (ht : t.1 = [10] → lastW T = true) : goodT (T ++ [t]) := by
  intro k hk e
  by_cases hl : k < T.length
  · rw [List.getElem_append_left hl] at e
    rw [List.take_append_of_le_length (by omega)]
    exact h k hl e
  · obtain rfl : k = T.length := by simp at hk; omega
    rw [List.getElem_append_right (by omega)] at e
    simp only [Nat.sub_self, List.getElem_cons_zero] at e
    rw [List.take_left']
    · exact ht e
    · rfl
structure LxB (l : List UInt8) (S : LxS) : Prop where
  good : goodT S.out
  any : lastW S.out = S.any
  cur : ∀ c ∈ S.cur, c.toNat ≠ 10
  len : ∀ t ∈ S.out, t.1.length ≤ l.length + 1
  cl : S.cur.length ≤ l.length
theorem LxB.fl {l : List UInt8} {S : LxS} (h : LxB l S) : LxB l (lxFl S) := by
  by_cases hc : S.cur = []
  · have e : lxFl S = S := by cases S; simp only at hc; subst hc; simp [lxFl]
    rw [e]; exact h
  · have h10 : S.cur ≠ [10] := fun e => by have := h.cur 10 (by rw [e]; simp); exact this rfl
    have hs : S.cur.isEmpty = false := by simpa using hc
    refine ⟨?_, ?_, fun c hc => (by cases hc), ?_, Nat.zero_le _⟩
    · unfold lxFl; rw [if_neg hc]; exact goodT_snoc h.good (fun e => absurd e h10)
    · unfold lxFl; rw [if_neg hc]; show lastW (S.out ++ [(S.cur, S.ln)]) = _; rw [lastW_snoc, hs]; simpa using h10
    · intro t ht
      unfold lxFl at ht
      rw [if_neg hc] at ht
      have ht2 : t ∈ S.out ++ [(S.cur, S.ln)] := ht
      rw [List.mem_append, List.mem_singleton] at ht2
      rcases ht2 with ht2 | rfl
      · exact h.len t ht2
      · have := h.cl; show S.cur.length ≤ _; omega
theorem LxB.nl {l : List UInt8} {S : LxS} (h : LxB l S) : LxB l (lxNl S) := by
  have q := h.fl
  refine ⟨?_, ?_, fun c hc => (by cases hc), ?_, Nat.zero_le _⟩
  · unfold lxNl
    by_cases ha : (lxFl S).any = true
    · rw [if_pos ha]; exact goodT_snoc q.good (fun _ => q.any.trans ha)
    · rw [if_neg ha, List.append_nil]; exact q.good
  · unfold lxNl
    by_cases ha : (lxFl S).any = true
    · rw [if_pos ha]; show lastW ((lxFl S).out ++ [([10], S.ln)]) = false; rw [lastW_snoc]; rfl
    · rw [if_neg ha, List.append_nil]; show lastW (lxFl S).out = false; rw [q.any]; simpa using ha
  · intro t ht
    unfold lxNl at ht
    by_cases ha : (lxFl S).any = true
    · rw [if_pos ha] at ht
      have ht2 : t ∈ (lxFl S).out ++ [([10], S.ln)] := ht
      rw [List.mem_append, List.mem_singleton] at ht2
      rcases ht2 with ht2 | rfl
      · exact q.len t ht2
      · show 1 ≤ _; omega
    · rw [if_neg ha, List.append_nil] at ht
      exact q.len t ht
theorem LxB.more {l : List UInt8} {S : LxS} (h : LxB l S) (c : UInt8) : LxB (l ++ [c]) S := ⟨h.good, h.any, h.cur, fun t ht => by have := h.len t ht; simp; omega, by have := h.cl; simp; omega⟩
theorem lx_b (l : List UInt8) : LxB l (lxF l) := by
  induction l using snocInd with
  | h0 => exact ⟨fun k hk => (by simp [lxF, lx0] at hk), rfl, fun c hc => (by simp [lxF, lx0] at hc), fun t ht => (by simp [lxF, lx0] at ht), Nat.le_refl _⟩
  | h l c ih =>
    rw [lxF_snoc]
    generalize lxF l = S at *
    unfold lxStep
    split
    · exact ih.nl.more c
    · rename_i h10
      split
      · exact ih.more c
      · split
        · have q := ih.fl.more c; exact ⟨q.good, q.any, q.cur, q.len, q.cl⟩
        · split
          · exact ih.fl.more c
          · have q := ih.more c
            refine ⟨q.good, q.any, ?_, q.len, ?_⟩
            · intro x hx
              have hx2 : x ∈ S.cur ++ [c] := hx
              rw [List.mem_append, List.mem_singleton] at hx2
              rcases hx2 with hx2 | rfl
              · exact ih.cur x hx2
              · exact h10
            · have := ih.cl; show (S.cur ++ [c]).length ≤ _; simp; omega
theorem tok_b (l : List UInt8) : goodT (tokL l) ∧ ∀ t ∈ tokL l, t.1.length ≤ l.length + 1 := by
  have := (lx_b l).nl
  rw [tokL_lx]
  exact ⟨this.good, this.len⟩
theorem lex_b (l : List UInt8) (h : lexE l = 0) : goodT (lexT l) ∧ (∀ t ∈ lexT l, t.1.length ≤ 100000) ∧ (lexT l).length ≤ 1024 := by
  have e : lexT l = tokL l := if_pos h
  have h1 : ¬ 4096 < l.length := by
    intro h2
    have := (lex_big h2).1
    omega
  have h2 : ¬ 1024 < (tokL l).length := by
    intro h2
    have := (lex_many h1 h2).1
    omega
  obtain ⟨b1, b2⟩ := tok_b l
  rw [e]
  exact ⟨b1, fun t ht => by have := b2 t ht; omega, by omega⟩
theorem SrH.other {B : Nat} {w0 w w1 : World} {zb : Nat} {z : Src} {v : Value} (h : SrH B w0 w zb z v) {x : Obj} {u : Value} {n : Nat} {xs : List Value} (hu : w.ownsRow B 9 1 u n xs) (hg : (w.alloc x).grownBy w1 u.ownBlock) : SrH B w0 w1 zb z v := by
  have keep : ∀ k, k < w.heap.size → u.ownBlock ≠ some k → w1.heap[k]? = w.heap[k]? := fun k hk hne => app_keep hg hk hne
  have uz : u.ownBlock ≠ some zb := own_kind hu h.row (fun c fz e => by injection e with _ e2; exact absurd e2 (by decide))
  have hs := hg.size
  have hs2 : (w.alloc x).heap.size = w.heap.size + 1 := by simp
  have hs3 := h.sz
  refine ⟨(keep zb h.lt uz).trans h.row, own_stay h.own (fun g hg2 => ?_), h.bz, bel_append h.bel h.sz hu hg, by omega⟩
  obtain ⟨c2, f2, h2⟩ := own_some h.own hg2
  exact keep g (Array.getElem?_eq_some_iff.1 h2).1 (own_kind hu h2 (fun c fz e => by injection e with _ e2; exact absurd e2 (by decide)))
end Go.Proofs.YteinjdmkmfeniaaGreatDoor
namespace Go.Proofs.YteinjdmkmfeniaaGreatDoor
set_option linter.unusedVariables false
set_option linter.unusedSimpArgs false
open Go.ChangeShapes Go.WideShapes Go.ChangeAt Go.RowKit
theorem src_bad (k E : Int) {R : Src × Int × Int} (hR : R = (src0, k, E)) {w w' : World} (hb : Below w.heap.size w w') :
    RetSrc R.1 R.2.1 R.2.2 w (.returned (.tuple #[.agg #[.string ⟨#[]⟩, .int .i64 0, .bool false, .string ⟨#[]⟩, .slice none 0 0], .int .i64 k, .int .i64 E])) w' := by
  subst hR
  refine ⟨none, 0, ?_, fun j u hu => (by simp [linVs, src0] at hu), hb⟩
  show _ = Ending.returned (.tuple #[.agg #[.string (bs []), .int .i64 0, .bool false, .string (bs []), .slice none 0 0], .int .i64 k, .int .i64 E])
  rw [bs_empty]
theorem stE_lt {z : Src} {n : Nat} {ws : List (List UInt8)} (h : n < 2) : stE z n ws = hdE n ws := if_pos h
theorem stS_lt {z : Src} {n : Nat} {ws : List (List UInt8)} (h : n < 2) : stS z n ws = hdS z n ws := if_pos h
theorem stE_ge {z : Src} {n : Nat} {ws : List (List UInt8)} (h : ¬ n < 2) : stE z n ws = lnE z.lns ws := if_neg h
theorem stS_ge {z : Src} {n : Nat} {ws : List (List UInt8)} (h : ¬ n < 2) : stS z n ws = { z with lns := z.lns ++ [lnL ws] } := if_neg h
end Go.Proofs.YteinjdmkmfeniaaGreatDoor
