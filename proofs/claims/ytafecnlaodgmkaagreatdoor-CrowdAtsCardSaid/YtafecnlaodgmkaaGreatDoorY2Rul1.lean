/- Several texts in one: RulA, RulC, RulE, RulF, RulG, RulI, RulM, RulK, RulR, RulT, RulS, RulU, RulTb, RulV, RulZ. -/
import Derived.Test.YtafecnlaodgmkaaGreatDoorY2Sm
import Derived.Test.YtafecnlaodgmkaaGreatDoorY2Pkg1
import Derived.Test.YtafecnlaodgmkaaGreatDoorShelf
import Derived.Test.YtafecnlaodgmkaaGreatDoorY2Pkg2
import Derived.Test.YtafecnlaodgmkaaGreatDoorY2Inst1
import Derived.Test.YtafecnlaodgmkaaGreatDoorY2RowS1
import Derived.Test.YtafecnlaodgmkaaGreatDoorY2Clk1
import Derived.Test.YtafecnlaodgmkaaGreatDoorY2Civ1
import Derived.Test.YtafecnlaodgmkaaGreatDoorY2Ct1
import Derived.Test.YtafecnlaodgmkaaGreatDoorY2Yr1
import Derived.Test.YtafecnlaodgmkaaGreatDoorY2Lex1
import Derived.Test.YtafecnlaodgmkaaGreatDoorY2Wrd1
import Derived.Test.YtafecnlaodgmkaaGreatDoorY2OwnA1
import Derived.Test.YtafecnlaodgmkaaGreatDoorY2Kx1
import Derived.LoopN
import Derived.Lib.Small
import Derived.Outline
import Derived.Deep.Cut
import Derived.Deep.RegionHeld3
import Derived.OwnWalk
namespace Go.Proofs.YtafecnlaodgmkaaGreatDoor
set_option linter.unusedVariables false
set_option linter.unusedSimpArgs false
open Go.ChangeShapes Go.WideShapes Go.ChangeAt Go.RowKit
theorem grow_of2 {P : Program} {f : Nat} {args : Array Value} {w : World} {r : Ending} (h : Calls P f args w fun e w' => e = r ∧ w = w') : Calls P f args w fun e w' => e = r ∧ Below w.heap.size w w' := h.mono fun e w' ⟨a, b⟩ => ⟨a, b ▸ Below.refl _ _⟩
theorem bs_empty : bs [] = ⟨#[]⟩ := by unfold bs; rfl
end Go.Proofs.YtafecnlaodgmkaaGreatDoor
namespace Go.Proofs.YtafecnlaodgmkaaGreatDoor
set_option linter.unusedVariables false
set_option linter.unusedSimpArgs false
open Go.ChangeShapes Go.WideShapes Go.ChangeAt Go.RowKit
def nbN (k : Nat) : List UInt8 := if h : k < 10 then [dgt (k : Int)] else nbN (k / 10) ++ [dgt ((k % 10 : Nat) : Int)]
decreasing_by omega
theorem nbN_small {k : Nat} (h : k < 10) : nbN k = [dgt (k : Int)] := by rw [nbN, dif_pos h]
theorem nbN_big {k : Nat} (h : ¬ k < 10) : nbN k = nbN (k / 10) ++ [dgt ((k % 10 : Nat) : Int)] := by rw [nbN, dif_neg h]
theorem nbN_len (b : Nat) : ∀ k : Nat, k < 10 ^ (b + 1) → (nbN k).length ≤ b + 1 := by
  induction b with
  | zero => intro k h; rw [nbN_small (by simpa using h)]; simp
  | succ b ih =>
    intro k h
    by_cases h10 : k < 10
    · rw [nbN_small h10]; simp
    · rw [nbN_big h10, List.length_append, List.length_singleton]
      have := ih (k / 10) (by rw [Nat.pow_succ] at h; omega)
      omega
@[irreducible] def nbI (n : Int) : List UInt8 := if n < 0 then 45 :: nbN (-n).toNat else nbN n.toNat
theorem nbI_small {n : Int} (h0 : 0 ≤ n) (h : n < 10) : nbI n = [dgt (n % 10)] := by
  unfold nbI
  rw [if_neg (by omega), nbN_small (by omega)]
  congr 2; omega
theorem nbI_big {n : Int} (h : 10 ≤ n) : nbI n = nbI (n / 10) ++ [dgt (n % 10)] := by
  unfold nbI
  rw [if_neg (by omega), if_neg (by omega), nbN_big (by omega)]
  congr 3
  · omega
  · omega
@[irreducible] def ruD (k n w : Int) : List UInt8 := if k = 0 then nbI n else if k = 1 then lastL ++ wkS w else if k = 2 then wkS w ++ [62, 61] ++ nbI n else wkS w ++ [60, 61] ++ nbI n
theorem lit_bs15 (a : Array UInt8) : (⟨a⟩ : ByteArray) = bs a.toList := by unfold bs; simp
end Go.Proofs.YtafecnlaodgmkaaGreatDoor
namespace Go.Proofs.YtafecnlaodgmkaaGreatDoor
set_option linter.unusedVariables false
set_option linter.unusedSimpArgs false
structure Lin where
  k : Int
  s : Int
  f : Int
  t : Int
  m : Int
  dk : Int
  dn : Int
  dw : Int
  ti : Int
  rd : Int
  off : Int
  dst : Bool
  abb : List UInt8
structure Src where
  nam : List UInt8
  off : Int
  dst : Bool
  abb : List UInt8
  lns : List Lin
def src0 : Src := ⟨[], 0, false, [], []⟩
def wd (w : List (List UInt8)) (i : Nat) : List UInt8 := w.getD i []
def tailN (l : List Lin) : Nat := (l.filter (fun x => x.t == 1048576)).length
def OkT (off : Int) (abb : List UInt8) : Prop := -64800 ≤ off ∧ off ≤ 64800 ∧ abbE abb = 0
def OkL (l : Lin) : Prop :=
  ((l.k = 1 ∧ l.f = 0 ∧ l.t = 0 ∧ l.m = 0 ∧ l.dk = 0 ∧ l.dn = 0 ∧ l.dw = 0 ∧ l.ti = 0 ∧ l.rd = 0 ∧ -377705116800 ≤ l.s ∧ l.s ≤ 253402300799) ∨
   (l.k = 2 ∧ l.s = 0 ∧ -9999 ≤ l.f ∧ l.f ≤ 9999 ∧ (l.t = 1048576 ∨ (-9999 ≤ l.t ∧ l.t ≤ 9999 ∧ l.f ≤ l.t)) ∧ 1 ≤ l.m ∧ l.m ≤ 12 ∧ mayD l.dk l.dn l.dw = true ∧ 0 ≤ l.ti ∧ l.ti ≤ 86400 ∧ -64800 ≤ l.rd ∧ l.rd ≤ 64800)) ∧ OkT l.off l.abb
def OkS (z : Src) : Prop := z.lns.length ≤ 16 ∧ tailN z.lns ≤ 4 ∧ namE z.nam = 0 ∧ OkT z.off z.abb ∧ z.dst = false ∧ ∀ l ∈ z.lns, OkL l
theorem nbN_dg : ∀ k : Nat, (nbN k).all dgB = true ∧ dval (nbN k) = k ∧ 0 < (nbN k).length ∧ (zero1 (nbN k) = true → k = 0) := by
  intro k
  induction k using Nat.strongRecOn with
  | ind k ih =>
    by_cases h : k < 10
    · rw [nbN_small h]
      have e := dgt_nat (p := (k : Int)) (by omega) (by omega)
      have d := dgB_dgt (p := (k : Int)) (by omega) (by omega)
      refine ⟨by simp [d], by unfold dval; simp [e], by simp, ?_⟩
      intro hz
      unfold zero1 at hz
      simp [e] at hz
      omega
    · rw [nbN_big h]
      obtain ⟨a, b, c, z⟩ := ih (k / 10) (by omega)
      have e := dgt_nat (p := ((k % 10 : Nat) : Int)) (by omega) (by omega)
      have d := dgB_dgt (p := ((k % 10 : Nat) : Int)) (by omega) (by omega)
      refine ⟨by rw [List.all_append, a, List.all_cons, d]; rfl, by rw [dval_snoc, b, e]; omega, by simp, ?_⟩
      intro hz
      have : zero1 (nbN (k / 10)) = true := by
        cases hx : nbN (k / 10) with
        | nil => rw [hx] at c; simp at c
        | cons x y => rw [hx] at hz; simpa [zero1] using hz
      have := z this
      omega
end Go.Proofs.YtafecnlaodgmkaaGreatDoor
namespace Go.Proofs.YtafecnlaodgmkaaGreatDoor
set_option linter.unusedVariables false
set_option linter.unusedSimpArgs false
def plB (c : UInt8) : Bool := decide (33 ≤ c.toNat) && decide (c.toNat ≤ 126) && !(c.toNat == 35)
theorem plB_iff (c : UInt8) : plB c = true ↔ 33 ≤ c.toNat ∧ c.toNat ≤ 126 ∧ c.toNat ≠ 35 := by unfold plB; simp [and_assoc]
def plW (t : List UInt8) : Prop := t ≠ [] ∧ t.all plB = true
end Go.Proofs.YtafecnlaodgmkaaGreatDoor
namespace Go.Proofs.YtafecnlaodgmkaaGreatDoor
set_option linter.unusedVariables false
set_option linter.unusedSimpArgs false
theorem plB_dg {c : UInt8} (h : dgB c = true) : plB c = true := by rw [plB_iff]; have := (dgB_iff c).1 h; omega
theorem pl_all {a b : List UInt8} (ha : a.all plB = true) (hb : b.all plB = true) : (a ++ b).all plB = true := by rw [List.all_append, ha, hb]; rfl
theorem pl_dgs {t : List UInt8} (h : t.all dgB = true) : t.all plB = true := List.all_eq_true.2 (fun c hc => plB_dg (List.all_eq_true.1 h c hc))
theorem nbI_ne (n : Int) : nbI n ≠ [] := by
  unfold nbI
  split
  · simp
  · have := (nbN_dg n.toNat).2.2.1
    intro h; rw [h] at this; simp at this
theorem pl_nb (n : Int) : plW (nbI n) := by
  refine ⟨nbI_ne n, ?_⟩
  unfold nbI
  split
  · rw [List.all_cons, pl_dgs (nbN_dg _).1]; rfl
  · exact pl_dgs (nbN_dg _).1
theorem nbI_len7 {n : Int} (h1 : -999999 ≤ n) (h2 : n ≤ 999999) : (nbI n).length ≤ 7 := by
  unfold nbI
  split
  · have := nbN_len 5 (-n).toNat (by omega); simp; omega
  · have := nbN_len 5 n.toNat (by omega); omega
theorem nb_nm {n : Int} (h1 : 1 ≤ n) (h2 : n ≤ 31) : nbI n = nmL n := by
  unfold nmL
  by_cases h : 10 ≤ n
  · rw [if_pos h, nbI_big h, nbI_small (by omega) (by omega), show n / 10 % 10 = n / 10 by omega]; rfl
  · rw [if_neg h, nbI_small (by omega) (by omega)]
theorem wkS_pl : ∀ k : Fin 7, (wkS ((k.val : Int) + 1)).all plB = true := by decide +kernel
theorem wkS_plW {k : Int} (h1 : 1 ≤ k) (h7 : k ≤ 7) : (wkS k).all plB = true := by
  have := wkS_pl ⟨(k - 1).toNat, by omega⟩
  rwa [show (((k - 1).toNat : Nat) : Int) + 1 = k by omega] at this
theorem mayD_parts {k n w : Int} (h : mayD k n w = true) : (k = 0 ∧ (1 ≤ n ∧ n ≤ 31) ∧ w = 0) ∨ (k = 1 ∧ (1 ≤ w ∧ w ≤ 7) ∧ n = 0) ∨ (k = 2 ∧ (1 ≤ w ∧ w ≤ 7) ∧ (1 ≤ n ∧ n ≤ 31)) ∨ (k = 3 ∧ (1 ≤ w ∧ w ≤ 7) ∧ (1 ≤ n ∧ n ≤ 31)) := by
  unfold mayD at h
  by_cases h0 : k = 0
  · rw [if_pos h0] at h; simp [okN] at h; omega
  · rw [if_neg h0] at h
    by_cases h1 : k = 1
    · rw [if_pos h1] at h; simp [okW] at h; omega
    · rw [if_neg h1] at h
      by_cases h2 : k = 2 ∨ k = 3
      · rw [if_pos h2] at h; simp [okN, okW] at h; omega
      · rw [if_neg h2] at h; cases h
theorem day_back {k n w : Int} (h : mayD k n w = true) : dayR (ruD k n w) = (k, n, w, 0) ∧ plW (ruD k n w) ∧ (ruD k n w).length ≤ 8 := by
  rcases mayD_parts h with ⟨rfl, ⟨n1, n2⟩, rfl⟩ | ⟨rfl, ⟨w1, w2⟩, rfl⟩ | ⟨rfl, ⟨w1, w2⟩, n1, n2⟩ | ⟨rfl, ⟨w1, w2⟩, n1, n2⟩
  · have e : ruD 0 n 0 = nbI n := by unfold ruD; rfl
    have d := (wk_days (w := 1) (n := n) (by decide) (by decide) n1 n2).2.2.2
    rw [e]
    exact ⟨by rw [nb_nm n1 n2]; exact d, pl_nb n, by have := nbI_len7 (n := n) (by omega) (by omega); omega⟩
  · have e : ruD 1 0 w = lastL ++ wkS w := by unfold ruD; rfl
    have d := (wk_days (w := w) (n := 1) w1 w2 (by decide) (by decide)).1
    have l := wkS_len w w1 w2
    rw [e]
    exact ⟨d, ⟨by unfold lastL; simp, pl_all (by decide) (wkS_plW w1 w2)⟩, by rw [List.length_append, l]; decide⟩
  · have e : ruD 2 n w = wkS w ++ [62, 61] ++ nbI n := by unfold ruD; rfl
    have d := (wk_days (w := w) (n := n) w1 w2 n1 n2).2.1
    have l := wkS_len w w1 w2
    rw [e, nb_nm n1 n2]
    refine ⟨d, ⟨by simp, pl_all (pl_all (wkS_plW w1 w2) (by decide)) (by rw [← nb_nm n1 n2]; exact (pl_nb n).2)⟩, ?_⟩
    rw [List.length_append, List.length_append, l]
    unfold nmL
    split <;> simp
  · have e : ruD 3 n w = wkS w ++ [60, 61] ++ nbI n := by unfold ruD; rfl
    have d := (wk_days (w := w) (n := n) w1 w2 n1 n2).2.2.1
    have l := wkS_len w w1 w2
    rw [e, nb_nm n1 n2]
    refine ⟨d, ⟨by simp, pl_all (pl_all (wkS_plW w1 w2) (by decide)) (by rw [← nb_nm n1 n2]; exact (pl_nb n).2)⟩, ?_⟩
    rw [List.length_append, List.length_append, l]
    unfold nmL
    split <;> simp
end Go.Proofs.YtafecnlaodgmkaaGreatDoor
namespace Go.Proofs.YtafecnlaodgmkaaGreatDoor
set_option linter.unusedVariables false
set_option linter.unusedSimpArgs false
theorem tailN_app (a b : List Lin) : tailN (a ++ b) = tailN a + tailN b := by unfold tailN; simp
theorem tailN_one (l : Lin) : tailN [l] = if l.t = 1048576 then 1 else 0 := by unfold tailN; by_cases h : l.t = 1048576 <;> simp [h]
theorem num_in {L : List UInt8} {lo hi : Int} (h : numE L lo hi = 0) : lo ≤ numV L lo hi ∧ numV L lo hi ≤ hi := by
  unfold numV
  rw [if_pos h]
  unfold numE at h
  split at h
  · split at h
    · exact absurd h (by decide)
    · omega
  · exact absurd h (by decide)
theorem day_in {t : List UInt8} (h : (dayR t).2.2.2 = 0) : mayD (dayR t).1 (dayR t).2.1 (dayR t).2.2.1 = true := by
  unfold dayR at *
  split at h
  · rename_i h1
    rw [if_pos h1]
    split at h
    · exact absurd h (by decide)
    · rename_i h2
      rw [if_neg h2]
      have := wkd_bd (t.drop 5)
      unfold mayD okW
      rw [if_neg (by simp), if_pos rfl]
      simp
      omega
  · rename_i h1
    rw [if_neg h1]
    split at h
    · rename_i h2
      rw [if_pos h2]
      have := wkd_bd (t.take 3)
      split at h
      · rename_i h3
        rw [if_pos h3]
        split at h
        · rename_i h4
          rw [if_pos h4]
          have := num_in h4
          unfold mayD okW okN
          rw [if_neg (by simp), if_neg (by simp), if_pos (by simp)]
          simp
          omega
        · rename_i h4; exact absurd h h4
      · rename_i h3
        rw [if_neg h3]
        split at h
        · rename_i h5
          rw [if_pos h5]
          split at h
          · rename_i h4
            rw [if_pos h4]
            have := num_in h4
            unfold mayD okW okN
            rw [if_neg (by simp), if_neg (by simp), if_pos (by simp)]
            simp
            omega
          · rename_i h4; exact absurd h h4
        · exact absurd h (by decide)
    · rename_i h2
      rw [if_neg h2]
      split at h
      · rename_i h4
        rw [if_pos h4]
        have := num_in h4
        unfold mayD okN
        rw [if_pos rfl]
        simp
        omega
      · rename_i h4; exact absurd h h4
end Go.Proofs.YtafecnlaodgmkaaGreatDoor
namespace Go.Proofs.YtafecnlaodgmkaaGreatDoor
set_option linter.unusedVariables false
set_option linter.unusedSimpArgs false
def triE (off : Int) (abb : List UInt8) : Int := fsI (abbE abb) (if off < -64800 ∨ 64800 < off then 8 else 0)
def toB (l : Lin) : Bool := decide (l.t = 1048576) || (decide (-9999 ≤ l.t) && decide (l.t ≤ 9999) && decide (l.f ≤ l.t))
def lineErr (l : Lin) : Int :=
  if l.k = 1 then (if l.f = 0 ∧ l.t = 0 ∧ l.m = 0 ∧ l.dk = 0 ∧ l.dn = 0 ∧ l.dw = 0 ∧ l.ti = 0 ∧ l.rd = 0 then (if l.s < -377705116800 ∨ 253402300799 < l.s then 8 else 0) else 5)
  else if l.k = 2 then (if l.s = 0 ∧ (-9999 ≤ l.f ∧ l.f ≤ 9999) ∧ toB l = true ∧ 1 ≤ l.m ∧ l.m ≤ 12 ∧ mayD l.dk l.dn l.dw = true ∧ 0 ≤ l.ti ∧ l.ti ≤ 86400 ∧ (-64800 ≤ l.rd ∧ l.rd ≤ 64800) then 0 else 5)
  else 5
def lnsErr (e : Int) (ls : List Lin) : Int := ls.foldl (fun e l => fsI (fsI e (lineErr l)) (triE l.off l.abb)) e
def ckR (z : Src) : Int :=
  if 16 < z.lns.length ∨ 4 < tailN z.lns then 1 else lnsErr (if z.dst = true then fsI (fsI (namE z.nam) (triE z.off z.abb)) 5 else fsI (namE z.nam) (triE z.off z.abb)) z.lns
theorem fsI_zero (x y : Int) : fsI x y = 0 ↔ x = 0 ∧ y = 0 := by
  unfold fsI
  split
  · constructor <;> (intro h; omega)
  · split
    · constructor <;> (intro h; omega)
    · split <;> (constructor <;> (intro h; omega))
theorem triE_zero (off : Int) (abb : List UInt8) : triE off abb = 0 ↔ OkT off abb := by
  unfold triE OkT
  rw [fsI_zero]
  split
  · constructor <;> (intro h; omega)
  · constructor <;> (intro h; omega)
theorem toB_iff (l : Lin) : toB l = true ↔ (l.t = 1048576 ∨ (-9999 ≤ l.t ∧ l.t ≤ 9999 ∧ l.f ≤ l.t)) := by unfold toB; simp [and_assoc]
theorem lineErr_zero (l : Lin) : lineErr l = 0 ∧ triE l.off l.abb = 0 ↔ OkL l := by
  rw [triE_zero]
  unfold OkL
  refine and_congr_left (fun _ => ?_)
  unfold lineErr
  by_cases h1 : l.k = 1
  · rw [if_pos h1]
    split
    · split
      · constructor <;> (intro h; omega)
      · constructor <;> (intro h; first | omega | (left; omega))
    · constructor <;> (intro h; omega)
  · rw [if_neg h1]
    by_cases h2 : l.k = 2
    · rw [if_pos h2]
      by_cases hc : l.s = 0 ∧ (-9999 ≤ l.f ∧ l.f ≤ 9999) ∧ toB l = true ∧ 1 ≤ l.m ∧ l.m ≤ 12 ∧ mayD l.dk l.dn l.dw = true ∧ 0 ≤ l.ti ∧ l.ti ≤ 86400 ∧ (-64800 ≤ l.rd ∧ l.rd ≤ 64800)
      · rw [if_pos hc]
        obtain ⟨a, ⟨b, b'⟩, c, d, d', e, f, f', g, g'⟩ := hc
        exact ⟨fun _ => Or.inr ⟨h2, a, b, b', (toB_iff l).1 c, d, d', e, f, f', g, g'⟩, fun _ => rfl⟩
      · rw [if_neg hc]
        refine ⟨fun h => absurd h (by decide), fun h => ?_⟩
        rcases h with h | ⟨_, a, b, b', c, d, d', e, f, f', g, g'⟩
        · omega
        · exact absurd ⟨a, ⟨b, b'⟩, (toB_iff l).2 c, d, d', e, f, f', g, g'⟩ hc
    · rw [if_neg h2]
      constructor <;> (intro h; omega)
theorem lnsErr_zero (ls : List Lin) : ∀ e : Int, lnsErr e ls = 0 ↔ e = 0 ∧ ∀ l ∈ ls, OkL l := by
  induction ls with
  | nil => intro e; simp [lnsErr]
  | cons l r ih =>
    intro e
    have := ih (fsI (fsI e (lineErr l)) (triE l.off l.abb))
    unfold lnsErr at *
    rw [List.foldl_cons, this, fsI_zero, fsI_zero, List.forall_mem_cons, ← lineErr_zero l]
    constructor
    · rintro ⟨⟨⟨a, b⟩, c⟩, d⟩; exact ⟨a, ⟨b, c⟩, d⟩
    · rintro ⟨a, ⟨b, c⟩, d⟩; exact ⟨⟨⟨a, b⟩, c⟩, d⟩
theorem ckR_zero (z : Src) : ckR z = 0 ↔ OkS z := by
  unfold ckR OkS
  by_cases h : 16 < z.lns.length ∨ 4 < tailN z.lns
  · rw [if_pos h]
    constructor
    · intro h; exact absurd h (by decide)
    · rintro ⟨a, b, _⟩; omega
  · rw [if_neg h, lnsErr_zero]
    cases hd : z.dst
    · rw [if_neg (by decide), fsI_zero, triE_zero]
      constructor
      · rintro ⟨⟨a, b⟩, c⟩; exact ⟨by omega, by omega, a, b, rfl, c⟩
      · rintro ⟨_, _, a, b, _, c⟩; exact ⟨⟨a, b⟩, c⟩
    · rw [if_pos rfl, fsI_zero]
      constructor
      · rintro ⟨⟨_, b⟩, _⟩; exact absurd b (by decide)
      · rintro ⟨_, _, _, _, b, _⟩; exact absurd b (by decide)
def srcV (z : Src) (A : Option Go.Addr) (c : Nat) : Go.Value := .agg #[.string (bs z.nam), .int .i64 z.off, .bool z.dst, .string (bs z.abb), .slice A z.lns.length c]
end Go.Proofs.YtafecnlaodgmkaaGreatDoor
namespace Go.Proofs.YtafecnlaodgmkaaGreatDoor
set_option linter.unusedVariables false
set_option linter.unusedSimpArgs false
open Go.ChangeShapes Go.WideShapes Go.ChangeAt Go.RowKit
def linV (l : Lin) : List Value :=
  [.int .i64 l.k, .int .i64 l.s, .int .i64 l.f, .int .i64 l.t, .int .i64 l.m, .int .i64 l.dk, .int .i64 l.dn, .int .i64 l.dw, .int .i64 l.ti, .int .i64 l.rd, .int .i64 l.off, .bool l.dst, strV l.abb]
def linVs (l : List Lin) : List Value := l.flatMap linV
theorem linVs_snoc (T : List Lin) (l : Lin) : linVs (T ++ [l]) = linVs T ++ linV l := by unfold linVs; simp
theorem linVs_at (T : List Lin) : ∀ (k : Nat) (h : k < T.length) (j : Nat), j < 13 → (linVs T)[k * 13 + j]? = (linV T[k])[j]? := by
  induction T with
  | nil => intro k h; simp at h
  | cons t T ih =>
    intro k h j hj
    have e : linVs (t :: T) = linV t ++ linVs T := by unfold linVs; rw [List.flatMap_cons]
    have hl : (linV t).length = 13 := rfl
    rw [e]
    cases k with
    | zero => rw [List.getElem?_append_left (by omega)]; simp
    | succ k =>
      rw [List.getElem?_append_right (by omega), hl, show (k + 1) * 13 + j - 13 = k * 13 + j by omega, ih k (by simpa using h) j hj]
      simp
theorem Rd.lin {w : World} {A : Option Addr} {T : List Lin} (h : Rd w A (linVs T)) {k : Nat} (hk : k < T.length) :
    ∃ b o, A = some ⟨b, o, none⟩ ∧ b < w.heap.size ∧ ∀ i (hi : i < T.length), w.cell? ⟨b, o + i * 13, none⟩ = some (.int .i64 T[i].k) ∧ w.cell? ⟨b, o + i * 13 + 1, none⟩ = some (.int .i64 T[i].s) ∧ w.cell? ⟨b, o + i * 13 + 2, none⟩ = some (.int .i64 T[i].f) ∧
      w.cell? ⟨b, o + i * 13 + 3, none⟩ = some (.int .i64 T[i].t) ∧ w.cell? ⟨b, o + i * 13 + 4, none⟩ = some (.int .i64 T[i].m) ∧ w.cell? ⟨b, o + i * 13 + 5, none⟩ = some (.int .i64 T[i].dk) ∧ w.cell? ⟨b, o + i * 13 + 6, none⟩ = some (.int .i64 T[i].dn) ∧
      w.cell? ⟨b, o + i * 13 + 7, none⟩ = some (.int .i64 T[i].dw) ∧ w.cell? ⟨b, o + i * 13 + 8, none⟩ = some (.int .i64 T[i].ti) ∧ w.cell? ⟨b, o + i * 13 + 9, none⟩ = some (.int .i64 T[i].rd) ∧ w.cell? ⟨b, o + i * 13 + 10, none⟩ = some (.int .i64 T[i].off) ∧
      w.cell? ⟨b, o + i * 13 + 11, none⟩ = some (.bool T[i].dst) ∧ w.cell? ⟨b, o + i * 13 + 12, none⟩ = some (.string (bs T[i].abb)) := by
  have h0 := linVs_at T k hk 0 (by decide)
  obtain ⟨b, o, hA, hb, _⟩ := h _ _ h0
  refine ⟨b, o, hA, hb, fun i hi => ?_⟩
  have key : ∀ j (hj : j < 13) u, (linV T[i])[j]? = some u → w.cell? ⟨b, o + i * 13 + j, none⟩ = some u := by
    intro j hj u hu
    have := h.at_ hA ((linVs_at T i hi j hj).trans hu)
    rwa [← Nat.add_assoc] at this
  exact ⟨key 0 (by decide) _ rfl, key 1 (by decide) _ rfl, key 2 (by decide) _ rfl, key 3 (by decide) _ rfl, key 4 (by decide) _ rfl, key 5 (by decide) _ rfl, key 6 (by decide) _ rfl, key 7 (by decide) _ rfl, key 8 (by decide) _ rfl, key 9 (by decide) _ rfl, key 10 (by decide) _ rfl, key 11 (by decide) _ rfl, key 12 (by decide) _ rfl⟩
end Go.Proofs.YtafecnlaodgmkaaGreatDoor
namespace Go.Proofs.YtafecnlaodgmkaaGreatDoor
set_option linter.unusedVariables false
set_option linter.unusedSimpArgs false
open Go.ChangeShapes Go.WideShapes Go.ChangeAt Go.RowKit
theorem tailN_take {T : List Lin} {k : Nat} (h : k < T.length) : tailN (T.take (k + 1)) = tailN (T.take k) + if T[k].t = 1048576 then 1 else 0 := by
  rw [List.take_succ_eq_append_getElem h, tailN_app, tailN_one]
theorem tailN_le (T : List Lin) : tailN T ≤ T.length := List.length_filter_le _ _
set_option maxHeartbeats 1600000 in
set_option maxRecDepth 100000 in
theorem rTails_any (T : List Lin) (A : Option Addr) (c : Nat) (w : World) (hT : T.length ≤ 9223372036854775807) (hR : Rd w A (linVs T)) : Calls Tryz.prog 23 #[.slice A T.length c] w fun e w' => e = .returned (.int .i64 (tailN T : Int)) ∧ w = w' := by
  have HR := Lib.hid hR
  clear hR
  have hn : ∀ k, k ≤ T.length → tailN (T.take k) ≤ k := fun k hk => by have := tailN_le (T.take k); simp at this; omega
  replace hn := Lib.hid hn
  go_enter Tryz.func23, Tryz.ntmps23
  go_wp2
  go_loop [3, 4] (fun n i => ∃ k : Nat, k ≤ T.length ∧ i = .int .i64 (k : Int) ∧ n = .int .i64 (tailN (T.take k) : Int)) (fun _ i => T.length - (intOf i).toNat)
  case atStart => exact ⟨0, by omega, rfl, rfl⟩
  case round =>
    obtain ⟨k, hk, rfl, rfl⟩ := hrel
    have hnk := hn.out k hk
    by_cases hlt : k < T.length
    · obtain ⟨b, o, rfl, hb, hc⟩ := HR.out.lin hlt
      have k3 := (hc k hlt).2.2.2.1
      have E : Hid (tailN (T.take (k + 1)) = tailN (T.take k) + if T[k].t = 1048576 then 1 else 0) := Lib.hid (tailN_take hlt)
      clear hc
      generalize T[k].t = t at *
      generalize tailN (T.take k) = N at *
      by_cases ht : t = 1048576
      · subst ht
        go_wp2
        go_round
        case rel => exact ⟨k + 1, by omega, by go_num, by rw [E.out, if_pos rfl]; go_num⟩
        case measure => simp [intOf]; omega
      · have f1 : (t == 1048576) = false := beq_eq_false_iff_ne.2 ht
        go_wp2
        go_round
        case rel => exact ⟨k + 1, by omega, by go_num, by rw [E.out, if_neg ht]; go_num⟩
        case measure => simp [intOf]; omega
    · obtain rfl : k = T.length := by omega
      rw [List.take_length] at *
      go_wp2
      go_ret
      exact ⟨rfl, rfl⟩
theorem rFirst_new (x y : Int) (T : TypeId) (w : World) : Calls Tryz.prog 24 #[.slice (some ⟨w.heap.size, 0, none⟩) 2 2] (w.alloc (.cells #[.int .i64 x, .int .i64 y] T)) fun e w' => e = .returned (.int .i64 (fsI x y)) ∧ Below w.heap.size w w' := by
  have r := heap_alloc_new w (.cells #[.int .i64 x, .int .i64 y] T)
  have c := row_cellA r
  refine (rFirst_any x y w.heap.size _ (c 0) (c 1)).mono ?_
  rintro e w' ⟨h, hb⟩
  exact ⟨h, ((Below.refl _ _).alloc (Nat.le_refl _) _).trans (hb.mono (by simp))⟩
set_option maxHeartbeats 1600000 in
set_option maxRecDepth 100000 in
theorem rMayTri_lo (off : Int) (h1 : off < -64800) (d : Bool) (ab : List UInt8) (ha : ab.length ≤ 9223372036854775807) (w : World) : Calls Tryz.prog 26 #[.agg #[.int .i64 off, .bool d, .string (bs ab)]] w fun e w' => e = .returned (.int .i64 (triE off ab)) ∧ Below w.heap.size w w' := by
  have H1 := Lib.hid (fun w => grow_of2 (rAbbr_all ab ha w))
  have E : Hid (triE off ab = fsI (abbE ab) 8) := Lib.hid (by unfold triE; rw [if_pos (Or.inl h1)])
  have d1 : decide (off < -64800) = decide (off < -64800) := rfl
  have hcase : (decide (off < -64800) = true) ∨ (decide (off < -64800) = false ∧ decide (64800 < off) = true) ∨ (decide (off < -64800) = false ∧ decide (64800 < off) = false) := by simp; omega
  generalize triE off ab = R at *
  generalize abbE ab = X at *
  generalize bs ab = S at *
  rcases hcase with e1 | ⟨e1, e2⟩ | ⟨e1, e2⟩
  all_goals first
    | (exfalso; simp at *; omega)
    | (go_enter Tryz.func26, Tryz.ntmps26
       go_wp2_with fail
       refine (H1.out _).mono ?_
       rintro e w1 ⟨rfl, hb1⟩
       replace hb1 := Lib.hid (((Below.refl w.heap.size w).alloc (Nat.le_refl _) _).trans (hb1.mono (by simp)))
       go_simp
       go_wp2_with fail
       refine (rFirst_new _ _ _ _).mono ?_
       rintro e w2 ⟨rfl, hb2⟩
       replace hb2 := Lib.hid hb2
       go_simp
       go_wp2
       go_ret
       exact ⟨by rw [E.out]; try rfl, hb1.out.trans (hb2.out.mono hb1.out.size)⟩)
set_option maxHeartbeats 1600000 in
set_option maxRecDepth 100000 in
theorem rMayTri_hi (off : Int) (h1 : 64800 < off) (d : Bool) (ab : List UInt8) (ha : ab.length ≤ 9223372036854775807) (w : World) : Calls Tryz.prog 26 #[.agg #[.int .i64 off, .bool d, .string (bs ab)]] w fun e w' => e = .returned (.int .i64 (triE off ab)) ∧ Below w.heap.size w w' := by
  have H1 := Lib.hid (fun w => grow_of2 (rAbbr_all ab ha w))
  have E : Hid (triE off ab = fsI (abbE ab) 8) := Lib.hid (by unfold triE; rw [if_pos (Or.inr h1)])
  have d1 : decide (off < -64800) = decide (off < -64800) := rfl
  have hcase : (decide (off < -64800) = true) ∨ (decide (off < -64800) = false ∧ decide (64800 < off) = true) ∨ (decide (off < -64800) = false ∧ decide (64800 < off) = false) := by simp; omega
  generalize triE off ab = R at *
  generalize abbE ab = X at *
  generalize bs ab = S at *
  rcases hcase with e1 | ⟨e1, e2⟩ | ⟨e1, e2⟩
  all_goals first
    | (exfalso; simp at *; omega)
    | (go_enter Tryz.func26, Tryz.ntmps26
       go_wp2_with fail
       refine (H1.out _).mono ?_
       rintro e w1 ⟨rfl, hb1⟩
       replace hb1 := Lib.hid (((Below.refl w.heap.size w).alloc (Nat.le_refl _) _).trans (hb1.mono (by simp)))
       go_simp
       go_wp2_with fail
       refine (rFirst_new _ _ _ _).mono ?_
       rintro e w2 ⟨rfl, hb2⟩
       replace hb2 := Lib.hid hb2
       go_simp
       go_wp2
       go_ret
       exact ⟨by rw [E.out]; try rfl, hb1.out.trans (hb2.out.mono hb1.out.size)⟩)
set_option maxHeartbeats 1600000 in
set_option maxRecDepth 100000 in
theorem rMayTri_in (off : Int) (h1 : ¬ (off < -64800 ∨ 64800 < off)) (d : Bool) (ab : List UInt8) (ha : ab.length ≤ 9223372036854775807) (w : World) : Calls Tryz.prog 26 #[.agg #[.int .i64 off, .bool d, .string (bs ab)]] w fun e w' => e = .returned (.int .i64 (triE off ab)) ∧ Below w.heap.size w w' := by
  have H1 := Lib.hid (fun w => grow_of2 (rAbbr_all ab ha w))
  have E : Hid (triE off ab = fsI (abbE ab) 0) := Lib.hid (by unfold triE; rw [if_neg h1])
  have d1 : decide (off < -64800) = decide (off < -64800) := rfl
  have hcase : (decide (off < -64800) = true) ∨ (decide (off < -64800) = false ∧ decide (64800 < off) = true) ∨ (decide (off < -64800) = false ∧ decide (64800 < off) = false) := by simp; omega
  generalize triE off ab = R at *
  generalize abbE ab = X at *
  generalize bs ab = S at *
  rcases hcase with e1 | ⟨e1, e2⟩ | ⟨e1, e2⟩
  all_goals first
    | (exfalso; simp at *; omega)
    | (go_enter Tryz.func26, Tryz.ntmps26
       go_wp2_with fail
       refine (H1.out _).mono ?_
       rintro e w1 ⟨rfl, hb1⟩
       replace hb1 := Lib.hid (((Below.refl w.heap.size w).alloc (Nat.le_refl _) _).trans (hb1.mono (by simp)))
       go_simp
       go_wp2_with fail
       refine (rFirst_new _ _ _ _).mono ?_
       rintro e w2 ⟨rfl, hb2⟩
       replace hb2 := Lib.hid hb2
       go_simp
       go_wp2
       go_ret
       exact ⟨by rw [E.out]; try rfl, hb1.out.trans (hb2.out.mono hb1.out.size)⟩)
theorem rMayTri_any (off : Int) (d : Bool) (ab : List UInt8) (ha : ab.length ≤ 9223372036854775807) (w : World) : Calls Tryz.prog 26 #[.agg #[.int .i64 off, .bool d, .string (bs ab)]] w fun e w' => e = .returned (.int .i64 (triE off ab)) ∧ Below w.heap.size w w' := by
  by_cases h1 : off < -64800
  · exact rMayTri_lo off h1 d ab ha w
  · by_cases h2 : 64800 < off
    · exact rMayTri_hi off h2 d ab ha w
    · exact rMayTri_in off (by omega) d ab ha w
theorem rd_int {w : World} {A : Option Addr} {xs : List Int} (h : Rd w A (xs.map (fun x => Value.int .i64 x))) {k : Nat} (hk : k < xs.length) : ∃ b o, A = some ⟨b, o, none⟩ ∧ b < w.heap.size ∧ w.cell? ⟨b, o + k, none⟩ = some (.int .i64 xs[k]) :=
  h k _ (by simp [List.getElem?_eq_getElem hk])
theorem fs_take {xs : List Int} {k : Nat} (h : k < xs.length) : (xs.take (k + 1)).foldl fsI 0 = fsI ((xs.take k).foldl fsI 0) xs[k] := by
  rw [List.take_succ_eq_append_getElem h, List.foldl_append]
  rfl
set_option maxHeartbeats 1600000 in
set_option maxRecDepth 100000 in
theorem rFirst_list (xs : List Int) (A : Option Addr) (c : Nat) (w : World) (hT : xs.length ≤ 1000000000) (hR : Rd w A (xs.map (fun x => Value.int .i64 x))) : Calls Tryz.prog 24 #[.slice A xs.length c] w fun e w' => e = .returned (.int .i64 (xs.foldl fsI 0)) ∧ Below w.heap.size w w' := by
  have HR := Lib.hid hR
  clear hR
  go_enter Tryz.func24, Tryz.ntmps24
  go_wp2
  go_loop [3, 4] (fun n i => ∃ k : Nat, k ≤ xs.length ∧ i = .int .i64 (k : Int) ∧ n = .int .i64 ((xs.take k).foldl fsI 0)) (fun _ i => xs.length - (intOf i).toNat)
  case atStart => exact ⟨0, by omega, rfl, rfl⟩
  case round =>
    obtain ⟨k, hk, rfl, rfl⟩ := hrel
    by_cases hlt : k < xs.length
    · obtain ⟨b, o, rfl, hb, hc⟩ := rd_int HR.out hlt
      have E : Hid ((xs.take (k + 1)).foldl fsI 0 = fsI ((xs.take k).foldl fsI 0) xs[k]) := Lib.hid (fs_take hlt)
      generalize xs[k] = x at *
      generalize (xs.take k).foldl fsI 0 = e at *
      by_cases hx : x = 0
      · subst hx
        have V : fsI e 0 = e := by unfold fsI; split <;> simp [*]
        go_wp2
        go_round
        case rel => exact ⟨k + 1, by omega, by go_num, by rw [E.out, V]⟩
        case measure => simp [intOf]; omega
      · have f1 : (x != 0) = true := by rw [bne_iff_ne]; exact hx
        by_cases he : e = 0
        · subst he
          have V : fsI 0 x = x := by unfold fsI; rw [if_pos rfl]
          go_wp2
          go_round
          case rel => exact ⟨k + 1, by omega, by go_num, by rw [E.out, V]⟩
          case measure => simp [intOf]; omega
        · have f2 : (e == 0) = false := beq_eq_false_iff_ne.2 he
          by_cases hlx : x < e
          · have f3 : decide (x < e) = true := decide_eq_true hlx
            have V : fsI e x = x := by unfold fsI; rw [if_neg he, if_neg hx, if_pos hlx]
            go_wp2
            go_round
            case rel => exact ⟨k + 1, by omega, by go_num, by rw [E.out, V]⟩
            case measure => simp [intOf]; omega
          · have f3 : decide (x < e) = false := decide_eq_false hlx
            have V : fsI e x = e := by unfold fsI; rw [if_neg he, if_neg hx, if_neg hlx]
            clear hlx
            go_wp2
            go_round
            case rel => exact ⟨k + 1, by omega, by go_num, by rw [E.out, V]⟩
            case measure => simp [intOf]; omega
    · obtain rfl : k = xs.length := by omega
      rw [List.take_length] at *
      go_wp2
      go_ret
      exact ⟨rfl, Below.refl _ _⟩
end Go.Proofs.YtafecnlaodgmkaaGreatDoor
namespace Go.Proofs.YtafecnlaodgmkaaGreatDoor
set_option linter.unusedVariables false
set_option linter.unusedSimpArgs false
open Go.ChangeShapes Go.WideShapes Go.ChangeAt Go.RowKit
def linA (l : Lin) : Value := .agg #[.int .i64 l.k, .int .i64 l.s, .int .i64 l.f, .int .i64 l.t, .int .i64 l.m, .int .i64 l.dk, .int .i64 l.dn, .int .i64 l.dw, .int .i64 l.ti, .int .i64 l.rd, .int .i64 l.off, .bool l.dst, .string (bs l.abb)]
def lin0 : Lin := ⟨0, 0, 0, 0, 0, 0, 0, 0, 0, 0, 0, false, []⟩
end Go.Proofs.YtafecnlaodgmkaaGreatDoor
namespace Go.Proofs.YtafecnlaodgmkaaGreatDoor
set_option linter.unusedVariables false
set_option linter.unusedSimpArgs false
open Go.ChangeShapes Go.WideShapes Go.ChangeAt Go.RowKit
@[irreducible] def yrB (y : Int) : Bool := decide (-9999 ≤ y) && decide (y ≤ 9999)
theorem yrB_iff (y : Int) : yrB y = true ↔ (-9999 ≤ y ∧ y ≤ 9999) := by unfold yrB; simp
set_option maxHeartbeats 800000 in
theorem rYear15_p (n : Int) (w : World) : Calls Tryz.prog 39 #[.int .i64 n] w fun e w' => e = .returned (.bool (yrB n)) ∧ w = w' := by
  have E : Hid (yrB n = (decide (-9999 ≤ n) && decide (n ≤ 9999))) := Lib.hid (by unfold yrB; rfl)
  by_cases h1 : -9999 ≤ n
  · by_cases h2 : n ≤ 9999
    · go_enter Tryz.func39, Tryz.ntmps39
      go_wp2
      go_ret
      exact ⟨by rw [E.out]; simp [h1, h2], rfl⟩
    · have d2 : decide (n ≤ 9999) = false := decide_eq_false h2
      go_enter Tryz.func39, Tryz.ntmps39
      go_wp2
      go_ret
      exact ⟨by rw [E.out]; simp [h1, d2], rfl⟩
  · have d1 : decide (-9999 ≤ n) = false := decide_eq_false h1
    go_enter Tryz.func39, Tryz.ntmps39
    go_wp2
    go_ret
    exact ⟨by rw [E.out]; simp [d1], rfl⟩
set_option maxHeartbeats 1600000 in
set_option maxRecDepth 100000 in
theorem mayAt_f (s f t m dk dn dw ti rd off : Int) (dst : Bool) (S : ByteArray) (h : f ≠ 0) (w : World) :
    Calls Tryz.prog 27 #[.agg #[.int .i64 1, .int .i64 s, .int .i64 f, .int .i64 t, .int .i64 m, .int .i64 dk, .int .i64 dn, .int .i64 dw, .int .i64 ti, .int .i64 rd, .int .i64 off, .bool dst, .string S]] w fun e w' => e = .returned (.int .i64 5) ∧ Below w.heap.size w w' := by
  have h1 : (f == 0) = false := beq_eq_false_iff_ne.2 h
  have h2 : (f != 0) = true := by rw [bne_iff_ne]; exact h
  go_enter Tryz.func27, Tryz.ntmps27
  go_wp2
  go_ret
  exact ⟨rfl, (Below.refl _ _).alloc (Nat.le_refl _) _⟩
set_option maxHeartbeats 1600000 in
set_option maxRecDepth 100000 in
theorem mayAt_t (s t m dk dn dw ti rd off : Int) (dst : Bool) (S : ByteArray) (h : t ≠ 0) (w : World) :
    Calls Tryz.prog 27 #[.agg #[.int .i64 1, .int .i64 s, .int .i64 0, .int .i64 t, .int .i64 m, .int .i64 dk, .int .i64 dn, .int .i64 dw, .int .i64 ti, .int .i64 rd, .int .i64 off, .bool dst, .string S]] w fun e w' => e = .returned (.int .i64 5) ∧ Below w.heap.size w w' := by
  have h1 : (t == 0) = false := beq_eq_false_iff_ne.2 h
  have h2 : (t != 0) = true := by rw [bne_iff_ne]; exact h
  go_enter Tryz.func27, Tryz.ntmps27
  go_wp2
  go_ret
  exact ⟨rfl, (Below.refl _ _).alloc (Nat.le_refl _) _⟩
set_option maxHeartbeats 1600000 in
set_option maxRecDepth 100000 in
theorem mayAt_m (s m dk dn dw ti rd off : Int) (dst : Bool) (S : ByteArray) (h : m ≠ 0) (w : World) :
    Calls Tryz.prog 27 #[.agg #[.int .i64 1, .int .i64 s, .int .i64 0, .int .i64 0, .int .i64 m, .int .i64 dk, .int .i64 dn, .int .i64 dw, .int .i64 ti, .int .i64 rd, .int .i64 off, .bool dst, .string S]] w fun e w' => e = .returned (.int .i64 5) ∧ Below w.heap.size w w' := by
  have h1 : (m == 0) = false := beq_eq_false_iff_ne.2 h
  have h2 : (m != 0) = true := by rw [bne_iff_ne]; exact h
  go_enter Tryz.func27, Tryz.ntmps27
  go_wp2
  go_ret
  exact ⟨rfl, (Below.refl _ _).alloc (Nat.le_refl _) _⟩
set_option maxHeartbeats 1600000 in
set_option maxRecDepth 100000 in
theorem mayAt_dk (s dk dn dw ti rd off : Int) (dst : Bool) (S : ByteArray) (h : dk ≠ 0) (w : World) :
    Calls Tryz.prog 27 #[.agg #[.int .i64 1, .int .i64 s, .int .i64 0, .int .i64 0, .int .i64 0, .int .i64 dk, .int .i64 dn, .int .i64 dw, .int .i64 ti, .int .i64 rd, .int .i64 off, .bool dst, .string S]] w fun e w' => e = .returned (.int .i64 5) ∧ Below w.heap.size w w' := by
  have h1 : (dk == 0) = false := beq_eq_false_iff_ne.2 h
  have h2 : (dk != 0) = true := by rw [bne_iff_ne]; exact h
  go_enter Tryz.func27, Tryz.ntmps27
  go_wp2
  go_ret
  exact ⟨rfl, (Below.refl _ _).alloc (Nat.le_refl _) _⟩
set_option maxHeartbeats 1600000 in
set_option maxRecDepth 100000 in
theorem mayAt_dn (s dn dw ti rd off : Int) (dst : Bool) (S : ByteArray) (h : dn ≠ 0) (w : World) :
    Calls Tryz.prog 27 #[.agg #[.int .i64 1, .int .i64 s, .int .i64 0, .int .i64 0, .int .i64 0, .int .i64 0, .int .i64 dn, .int .i64 dw, .int .i64 ti, .int .i64 rd, .int .i64 off, .bool dst, .string S]] w fun e w' => e = .returned (.int .i64 5) ∧ Below w.heap.size w w' := by
  have h1 : (dn == 0) = false := beq_eq_false_iff_ne.2 h
  have h2 : (dn != 0) = true := by rw [bne_iff_ne]; exact h
  go_enter Tryz.func27, Tryz.ntmps27
  go_wp2
  go_ret
  exact ⟨rfl, (Below.refl _ _).alloc (Nat.le_refl _) _⟩
set_option maxHeartbeats 1600000 in
set_option maxRecDepth 100000 in
theorem mayAt_dw (s dw ti rd off : Int) (dst : Bool) (S : ByteArray) (h : dw ≠ 0) (w : World) :
    Calls Tryz.prog 27 #[.agg #[.int .i64 1, .int .i64 s, .int .i64 0, .int .i64 0, .int .i64 0, .int .i64 0, .int .i64 0, .int .i64 dw, .int .i64 ti, .int .i64 rd, .int .i64 off, .bool dst, .string S]] w fun e w' => e = .returned (.int .i64 5) ∧ Below w.heap.size w w' := by
  have h1 : (dw == 0) = false := beq_eq_false_iff_ne.2 h
  have h2 : (dw != 0) = true := by rw [bne_iff_ne]; exact h
  go_enter Tryz.func27, Tryz.ntmps27
  go_wp2
  go_ret
  exact ⟨rfl, (Below.refl _ _).alloc (Nat.le_refl _) _⟩
set_option maxHeartbeats 1600000 in
set_option maxRecDepth 100000 in
theorem mayAt_ti (s ti rd off : Int) (dst : Bool) (S : ByteArray) (h : ti ≠ 0) (w : World) :
    Calls Tryz.prog 27 #[.agg #[.int .i64 1, .int .i64 s, .int .i64 0, .int .i64 0, .int .i64 0, .int .i64 0, .int .i64 0, .int .i64 0, .int .i64 ti, .int .i64 rd, .int .i64 off, .bool dst, .string S]] w fun e w' => e = .returned (.int .i64 5) ∧ Below w.heap.size w w' := by
  have h1 : (ti == 0) = false := beq_eq_false_iff_ne.2 h
  have h2 : (ti != 0) = true := by rw [bne_iff_ne]; exact h
  go_enter Tryz.func27, Tryz.ntmps27
  go_wp2
  go_ret
  exact ⟨rfl, (Below.refl _ _).alloc (Nat.le_refl _) _⟩
set_option maxHeartbeats 1600000 in
set_option maxRecDepth 100000 in
theorem mayAt_rd (s rd off : Int) (dst : Bool) (S : ByteArray) (h : rd ≠ 0) (w : World) :
    Calls Tryz.prog 27 #[.agg #[.int .i64 1, .int .i64 s, .int .i64 0, .int .i64 0, .int .i64 0, .int .i64 0, .int .i64 0, .int .i64 0, .int .i64 0, .int .i64 rd, .int .i64 off, .bool dst, .string S]] w fun e w' => e = .returned (.int .i64 5) ∧ Below w.heap.size w w' := by
  have h1 : (rd == 0) = false := beq_eq_false_iff_ne.2 h
  have h2 : (rd != 0) = true := by rw [bne_iff_ne]; exact h
  go_enter Tryz.func27, Tryz.ntmps27
  go_wp2
  go_ret
  exact ⟨rfl, (Below.refl _ _).alloc (Nat.le_refl _) _⟩
set_option maxHeartbeats 1600000 in
set_option maxRecDepth 100000 in
theorem mayAt_slo (s off : Int) (dst : Bool) (S : ByteArray) (h : s < -377705116800) (w : World) :
    Calls Tryz.prog 27 #[.agg #[.int .i64 1, .int .i64 s, .int .i64 0, .int .i64 0, .int .i64 0, .int .i64 0, .int .i64 0, .int .i64 0, .int .i64 0, .int .i64 0, .int .i64 off, .bool dst, .string S]] w fun e w' => e = .returned (.int .i64 8) ∧ Below w.heap.size w w' := by
  have h1 : decide (s < -377705116800) = true := decide_eq_true h
  go_enter Tryz.func27, Tryz.ntmps27
  go_wp2
  go_ret
  exact ⟨rfl, (Below.refl _ _).alloc (Nat.le_refl _) _⟩
set_option maxHeartbeats 1600000 in
set_option maxRecDepth 100000 in
theorem mayAt_shi (s off : Int) (dst : Bool) (S : ByteArray) (h0 : ¬ s < -377705116800) (h : 253402300799 < s) (w : World) :
    Calls Tryz.prog 27 #[.agg #[.int .i64 1, .int .i64 s, .int .i64 0, .int .i64 0, .int .i64 0, .int .i64 0, .int .i64 0, .int .i64 0, .int .i64 0, .int .i64 0, .int .i64 off, .bool dst, .string S]] w fun e w' => e = .returned (.int .i64 8) ∧ Below w.heap.size w w' := by
  have h1 : decide (s < -377705116800) = false := decide_eq_false h0
  have h2 : decide (253402300799 < s) = true := decide_eq_true h
  go_enter Tryz.func27, Tryz.ntmps27
  go_wp2
  go_ret
  exact ⟨rfl, (Below.refl _ _).alloc (Nat.le_refl _) _⟩
set_option maxHeartbeats 1600000 in
set_option maxRecDepth 100000 in
theorem mayAt_sin (s off : Int) (dst : Bool) (S : ByteArray) (h0 : ¬ s < -377705116800) (h : ¬ 253402300799 < s) (w : World) :
    Calls Tryz.prog 27 #[.agg #[.int .i64 1, .int .i64 s, .int .i64 0, .int .i64 0, .int .i64 0, .int .i64 0, .int .i64 0, .int .i64 0, .int .i64 0, .int .i64 0, .int .i64 off, .bool dst, .string S]] w fun e w' => e = .returned (.int .i64 0) ∧ Below w.heap.size w w' := by
  have h1 : decide (s < -377705116800) = false := decide_eq_false h0
  have h2 : decide (253402300799 < s) = false := decide_eq_false h
  go_enter Tryz.func27, Tryz.ntmps27
  go_wp2
  go_ret
  exact ⟨rfl, (Below.refl _ _).alloc (Nat.le_refl _) _⟩
set_option maxHeartbeats 1600000 in
set_option maxRecDepth 100000 in
theorem mayAt_kind (k s f t m dk dn dw ti rd off : Int) (dst : Bool) (S : ByteArray) (h1 : k ≠ 1) (h2 : k ≠ 2) (w : World) :
    Calls Tryz.prog 27 #[.agg #[.int .i64 k, .int .i64 s, .int .i64 f, .int .i64 t, .int .i64 m, .int .i64 dk, .int .i64 dn, .int .i64 dw, .int .i64 ti, .int .i64 rd, .int .i64 off, .bool dst, .string S]] w fun e w' => e = .returned (.int .i64 5) ∧ Below w.heap.size w w' := by
  have e1 : (k == 1) = false := beq_eq_false_iff_ne.2 h1
  have e2 : (k == 2) = false := beq_eq_false_iff_ne.2 h2
  go_enter Tryz.func27, Tryz.ntmps27
  go_wp2
  go_ret
  exact ⟨rfl, (Below.refl _ _).alloc (Nat.le_refl _) _⟩
set_option maxHeartbeats 1600000 in
set_option maxRecDepth 100000 in
theorem mayRu_of (s f t m dk dn dw ti rd off : Int) (dst : Bool) (S : ByteArray) (Yf D : Bool) (E : Int) (hY : yrB f = Yf) (hD : mayD dk dn dw = D) (hE : (if s = 0 ∧ Yf = true ∧ (decide (t = 1048576) || (yrB t && decide (f ≤ t))) = true ∧ 1 ≤ m ∧ m ≤ 12 ∧ D = true ∧ 0 ≤ ti ∧ ti ≤ 86400 ∧ (decide (-64800 ≤ rd) && decide (rd ≤ 64800)) = true then (0 : Int) else 5) = E) (w : World) :
    Calls Tryz.prog 27 #[.agg #[.int .i64 2, .int .i64 s, .int .i64 f, .int .i64 t, .int .i64 m, .int .i64 dk, .int .i64 dn, .int .i64 dw, .int .i64 ti, .int .i64 rd, .int .i64 off, .bool dst, .string S]] w fun e w' => e = .returned (.int .i64 E) ∧ Below w.heap.size w w' := by
  have HY := fun n w => rYear15_p n w
  have XM := rMayDay_any dk dn dw
  have XT := rYear15_p f
  rw [hD] at XM
  rw [hY] at XT
  have HM := Lib.hid XM
  have HT := Lib.hid XT
  replace hE := Lib.hid hE
  clear XM XT hY hD
  go_enter Tryz.func27, Tryz.ntmps27
  go_upto_region 9 with fail
  go_cut [3] (fun s3 wx => s3 = .bool (decide (t = 1048576) || (yrB t && decide (f ≤ t))) ∧ wx = w.alloc (.cells #[.int .i64 2, .int .i64 s, .int .i64 f, .int .i64 t, .int .i64 m, .int .i64 dk, .int .i64 dn, .int .i64 dw, .int .i64 ti, .int .i64 rd, .int .i64 off, .bool dst, .string S] 58))
  case first =>
    replace HT := Lib.hid (HY t)
    clear HM HY hE
    by_cases h1 : t = 1048576
    · subst h1
      go_wp2
      go_meet
      exact ⟨by simp, rfl⟩
    · have d1 : (t == 1048576) = false := beq_eq_false_iff_ne.2 h1
      by_cases h2 : yrB t = true
      · rw [h2] at HT
        by_cases h3 : f ≤ t
        · have d3 : decide (f ≤ t) = true := decide_eq_true h3
          go_wp2_with fail
          refine (HT.out _).mono ?_
          rintro e w1 ⟨rfl, rfl⟩
          go_simp
          go_wp2
          go_meet
          exact ⟨by rw [decide_eq_false h1, h2, d3]; rfl, rfl⟩
        · have d3 : decide (f ≤ t) = false := decide_eq_false h3
          go_wp2_with fail
          refine (HT.out _).mono ?_
          rintro e w1 ⟨rfl, rfl⟩
          go_simp
          go_wp2
          go_meet
          exact ⟨by rw [decide_eq_false h1, h2, d3]; rfl, rfl⟩
      · replace h2 : yrB t = false := by simpa using h2
        rw [h2] at HT
        go_wp2_with fail
        refine (HT.out _).mono ?_
        rintro e w1 ⟨rfl, rfl⟩
        go_simp
        go_wp2
        go_meet
        exact ⟨by rw [decide_eq_false h1, h2]; rfl, rfl⟩
  case rest =>
    obtain ⟨rfl, rfl⟩ := hcut
    generalize (decide (t = 1048576) || (yrB t && decide (f ≤ t))) = Bt at *
    go_upto_region 10 with fail
    go_cut [4] (fun s4 wx => s4 = .bool (decide (-64800 ≤ rd) && decide (rd ≤ 64800)) ∧ wx = w.alloc (.cells #[.int .i64 2, .int .i64 s, .int .i64 f, .int .i64 t, .int .i64 m, .int .i64 dk, .int .i64 dn, .int .i64 dw, .int .i64 ti, .int .i64 rd, .int .i64 off, .bool dst, .string S] 58))
    case first =>
      clear HM HY HT hE
      by_cases h1 : -64800 ≤ rd
      · have d1 : decide (-64800 ≤ rd) = true := decide_eq_true h1
        by_cases h2 : rd ≤ 64800
        · have d2 : decide (rd ≤ 64800) = true := decide_eq_true h2
          go_wp2
          go_meet
          exact ⟨by rw [d1, d2]; rfl, rfl⟩
        · have d2 : decide (rd ≤ 64800) = false := decide_eq_false h2
          go_wp2
          go_meet
          exact ⟨by rw [d1, d2]; rfl, rfl⟩
      · have d1 : decide (-64800 ≤ rd) = false := decide_eq_false h1
        go_wp2
        go_meet
        exact ⟨by rw [d1]; rfl, rfl⟩
    case rest =>
      obtain ⟨rfl, rfl⟩ := hcut
      clear HY
      generalize (decide (-64800 ≤ rd) && decide (rd ≤ 64800)) = Br at *
      replace hE := hE.out
      by_cases c0 : s = 0
      · by_cases c1 : Yf = true
        · by_cases c2 : Bt = true
          · by_cases c3 : 1 ≤ m
            · have d3 : decide (1 ≤ m) = true := decide_eq_true c3
              by_cases c4 : m ≤ 12
              · have d4 : decide (m ≤ 12) = true := decide_eq_true c4
                by_cases c5 : D = true
                · by_cases c6 : 0 ≤ ti
                  · have d6 : decide (0 ≤ ti) = true := decide_eq_true c6
                    by_cases c7 : ti ≤ 86400
                    · have d7 : decide (ti ≤ 86400) = true := decide_eq_true c7
                      by_cases c8 : Br = true
                      · have hF : Hid (E = 0) := Lib.hid (hE.symm.trans (if_pos ⟨c0, c1, c2, c3, c4, c5, c6, c7, c8⟩))
                        clear hE
                        subst c0
                        subst c1
                        subst c2
                        subst c5
                        subst c8
                        go_wp2_with fail
                        refine (HT.out _).mono ?_
                        rintro e w1 ⟨rfl, rfl⟩
                        go_simp
                        go_wp2_with fail
                        refine (HM.out _).mono ?_
                        rintro e w2 ⟨rfl, hb2⟩
                        have r1 := row_new hb2
                        have k6 : w2.cell? ⟨w.heap.size, 8, none⟩ = some (.int .i64 ti) := row_cellA r1 8
                        have HB : Hid (Below w.heap.size w w2) := Lib.hid (((Below.refl _ _).alloc (Nat.le_refl _) _).trans (hb2.mono (by simp)))
                        have y1 : w.heap.size < w2.heap.size := lt_of_heap r1
                        clear hb2 r1 HT HM
                        go_simp
                        go_wp2
                        go_ret
                        exact ⟨by rw [hF.out]; try rfl, HB.out⟩
                      · have hF : Hid (E = 5) := Lib.hid (hE.symm.trans (if_neg (by rintro ⟨e0, e1, e2, e3, e4, e5, e6, e7, e8⟩; first | omega | (exact absurd e1 (by assumption)) | (exact absurd e2 (by assumption)) | (exact absurd e5 (by assumption)) | (exact absurd e8 (by assumption)))))
                        clear hE
                        replace c8 : Br = false := by simpa using c8
                        subst c0
                        subst c1
                        subst c2
                        subst c5
                        subst c8
                        go_wp2_with fail
                        refine (HT.out _).mono ?_
                        rintro e w1 ⟨rfl, rfl⟩
                        go_simp
                        go_wp2_with fail
                        refine (HM.out _).mono ?_
                        rintro e w2 ⟨rfl, hb2⟩
                        have r1 := row_new hb2
                        have k6 : w2.cell? ⟨w.heap.size, 8, none⟩ = some (.int .i64 ti) := row_cellA r1 8
                        have HB : Hid (Below w.heap.size w w2) := Lib.hid (((Below.refl _ _).alloc (Nat.le_refl _) _).trans (hb2.mono (by simp)))
                        have y1 : w.heap.size < w2.heap.size := lt_of_heap r1
                        clear hb2 r1 HT HM
                        go_simp
                        go_wp2
                        go_ret
                        exact ⟨by rw [hF.out]; try rfl, HB.out⟩
                    · have hF : Hid (E = 5) := Lib.hid (hE.symm.trans (if_neg (by rintro ⟨e0, e1, e2, e3, e4, e5, e6, e7, e8⟩; first | omega | (exact absurd e1 (by assumption)) | (exact absurd e2 (by assumption)) | (exact absurd e5 (by assumption)) | (exact absurd e8 (by assumption)))))
                      clear hE
                      have d7 : decide (ti ≤ 86400) = false := decide_eq_false c7
                      subst c0
                      subst c1
                      subst c2
                      subst c5
                      go_wp2_with fail
                      refine (HT.out _).mono ?_
                      rintro e w1 ⟨rfl, rfl⟩
                      go_simp
                      go_wp2_with fail
                      refine (HM.out _).mono ?_
                      rintro e w2 ⟨rfl, hb2⟩
                      have r1 := row_new hb2
                      have k6 : w2.cell? ⟨w.heap.size, 8, none⟩ = some (.int .i64 ti) := row_cellA r1 8
                      have HB : Hid (Below w.heap.size w w2) := Lib.hid (((Below.refl _ _).alloc (Nat.le_refl _) _).trans (hb2.mono (by simp)))
                      have y1 : w.heap.size < w2.heap.size := lt_of_heap r1
                      clear hb2 r1 HT HM
                      go_simp
                      go_wp2
                      go_ret
                      exact ⟨by rw [hF.out]; try rfl, HB.out⟩
                  · have hF : Hid (E = 5) := Lib.hid (hE.symm.trans (if_neg (by rintro ⟨e0, e1, e2, e3, e4, e5, e6, e7, e8⟩; first | omega | (exact absurd e1 (by assumption)) | (exact absurd e2 (by assumption)) | (exact absurd e5 (by assumption)) | (exact absurd e8 (by assumption)))))
                    clear hE
                    have d6 : decide (0 ≤ ti) = false := decide_eq_false c6
                    subst c0
                    subst c1
                    subst c2
                    subst c5
                    go_wp2_with fail
                    refine (HT.out _).mono ?_
                    rintro e w1 ⟨rfl, rfl⟩
                    go_simp
                    go_wp2_with fail
                    refine (HM.out _).mono ?_
                    rintro e w2 ⟨rfl, hb2⟩
                    have r1 := row_new hb2
                    have k6 : w2.cell? ⟨w.heap.size, 8, none⟩ = some (.int .i64 ti) := row_cellA r1 8
                    have HB : Hid (Below w.heap.size w w2) := Lib.hid (((Below.refl _ _).alloc (Nat.le_refl _) _).trans (hb2.mono (by simp)))
                    have y1 : w.heap.size < w2.heap.size := lt_of_heap r1
                    clear hb2 r1 HT HM
                    go_simp
                    go_wp2
                    go_ret
                    exact ⟨by rw [hF.out]; try rfl, HB.out⟩
                · have hF : Hid (E = 5) := Lib.hid (hE.symm.trans (if_neg (by rintro ⟨e0, e1, e2, e3, e4, e5, e6, e7, e8⟩; first | omega | (exact absurd e1 (by assumption)) | (exact absurd e2 (by assumption)) | (exact absurd e5 (by assumption)) | (exact absurd e8 (by assumption)))))
                  clear hE
                  replace c5 : D = false := by simpa using c5
                  subst c0
                  subst c1
                  subst c2
                  subst c5
                  go_wp2_with fail
                  refine (HT.out _).mono ?_
                  rintro e w1 ⟨rfl, rfl⟩
                  go_simp
                  go_wp2_with fail
                  refine (HM.out _).mono ?_
                  rintro e w2 ⟨rfl, hb2⟩
                  have r1 := row_new hb2
                  have k6 : w2.cell? ⟨w.heap.size, 8, none⟩ = some (.int .i64 ti) := row_cellA r1 8
                  have HB : Hid (Below w.heap.size w w2) := Lib.hid (((Below.refl _ _).alloc (Nat.le_refl _) _).trans (hb2.mono (by simp)))
                  have y1 : w.heap.size < w2.heap.size := lt_of_heap r1
                  clear hb2 r1 HT HM
                  go_simp
                  go_wp2
                  go_ret
                  exact ⟨by rw [hF.out]; try rfl, HB.out⟩
              · have hF : Hid (E = 5) := Lib.hid (hE.symm.trans (if_neg (by rintro ⟨e0, e1, e2, e3, e4, e5, e6, e7, e8⟩; first | omega | (exact absurd e1 (by assumption)) | (exact absurd e2 (by assumption)) | (exact absurd e5 (by assumption)) | (exact absurd e8 (by assumption)))))
                clear hE
                have d4 : decide (m ≤ 12) = false := decide_eq_false c4
                subst c0
                subst c1
                subst c2
                go_wp2_with fail
                refine (HT.out _).mono ?_
                rintro e w1 ⟨rfl, rfl⟩
                go_simp
                clear HT HM
                go_wp2
                go_ret
                exact ⟨by rw [hF.out]; try rfl, (Below.refl _ _).alloc (Nat.le_refl _) _⟩
            · have hF : Hid (E = 5) := Lib.hid (hE.symm.trans (if_neg (by rintro ⟨e0, e1, e2, e3, e4, e5, e6, e7, e8⟩; first | omega | (exact absurd e1 (by assumption)) | (exact absurd e2 (by assumption)) | (exact absurd e5 (by assumption)) | (exact absurd e8 (by assumption)))))
              clear hE
              have d3 : decide (1 ≤ m) = false := decide_eq_false c3
              subst c0
              subst c1
              subst c2
              go_wp2_with fail
              refine (HT.out _).mono ?_
              rintro e w1 ⟨rfl, rfl⟩
              go_simp
              clear HT HM
              go_wp2
              go_ret
              exact ⟨by rw [hF.out]; try rfl, (Below.refl _ _).alloc (Nat.le_refl _) _⟩
          · have hF : Hid (E = 5) := Lib.hid (hE.symm.trans (if_neg (by rintro ⟨e0, e1, e2, e3, e4, e5, e6, e7, e8⟩; first | omega | (exact absurd e1 (by assumption)) | (exact absurd e2 (by assumption)) | (exact absurd e5 (by assumption)) | (exact absurd e8 (by assumption)))))
            clear hE
            replace c2 : Bt = false := by simpa using c2
            subst c0
            subst c1
            subst c2
            go_wp2_with fail
            refine (HT.out _).mono ?_
            rintro e w1 ⟨rfl, rfl⟩
            go_simp
            clear HT HM
            go_wp2
            go_ret
            exact ⟨by rw [hF.out]; try rfl, (Below.refl _ _).alloc (Nat.le_refl _) _⟩
        · have hF : Hid (E = 5) := Lib.hid (hE.symm.trans (if_neg (by rintro ⟨e0, e1, e2, e3, e4, e5, e6, e7, e8⟩; first | omega | (exact absurd e1 (by assumption)) | (exact absurd e2 (by assumption)) | (exact absurd e5 (by assumption)) | (exact absurd e8 (by assumption)))))
          clear hE
          replace c1 : Yf = false := by simpa using c1
          subst c0
          subst c1
          go_wp2_with fail
          refine (HT.out _).mono ?_
          rintro e w1 ⟨rfl, rfl⟩
          go_simp
          clear HT HM
          go_wp2
          go_ret
          exact ⟨by rw [hF.out]; try rfl, (Below.refl _ _).alloc (Nat.le_refl _) _⟩
      · have hF : Hid (E = 5) := Lib.hid (hE.symm.trans (if_neg (by rintro ⟨e0, e1, e2, e3, e4, e5, e6, e7, e8⟩; first | omega | (exact absurd e1 (by assumption)) | (exact absurd e2 (by assumption)) | (exact absurd e5 (by assumption)) | (exact absurd e8 (by assumption)))))
        clear hE
        have d0 : (s == 0) = false := beq_eq_false_iff_ne.2 c0
        clear HT HM
        go_wp2
        go_ret
        exact ⟨by rw [hF.out]; try rfl, (Below.refl _ _).alloc (Nat.le_refl _) _⟩
theorem toB_yr (l : Lin) : toB l = (decide (l.t = 1048576) || (yrB l.t && decide (l.f ≤ l.t))) := by unfold toB yrB; rfl
theorem rd_dec (r : Int) : (decide (-64800 ≤ r) && decide (r ≤ 64800)) = true ↔ (-64800 ≤ r ∧ r ≤ 64800) := by simp
theorem rMayLine_any (l : Lin) (w : World) : Calls Tryz.prog 27 #[.agg #[.int .i64 l.k, .int .i64 l.s, .int .i64 l.f, .int .i64 l.t, .int .i64 l.m, .int .i64 l.dk, .int .i64 l.dn, .int .i64 l.dw, .int .i64 l.ti, .int .i64 l.rd, .int .i64 l.off, .bool l.dst, .string (bs l.abb)]] w fun e w' => e = .returned (.int .i64 (lineErr l)) ∧ Below w.heap.size w w' := by
  by_cases hk1 : l.k = 1
  · by_cases hz : l.f = 0 ∧ l.t = 0 ∧ l.m = 0 ∧ l.dk = 0 ∧ l.dn = 0 ∧ l.dw = 0 ∧ l.ti = 0 ∧ l.rd = 0
    · obtain ⟨z0, z1, z2, z3, z4, z5, z6, z7⟩ := id hz
      have hE : lineErr l = if l.s < -377705116800 ∨ 253402300799 < l.s then 8 else 0 := by unfold lineErr; rw [if_pos hk1, if_pos hz]
      rw [hE, hk1, z0, z1, z2, z3, z4, z5, z6, z7]
      by_cases h1 : l.s < -377705116800
      · rw [if_pos (Or.inl h1)]; exact mayAt_slo l.s l.off l.dst _ h1 w
      · by_cases h2 : 253402300799 < l.s
        · rw [if_pos (Or.inr h2)]; exact mayAt_shi l.s l.off l.dst _ h1 h2 w
        · rw [if_neg (by omega)]; exact mayAt_sin l.s l.off l.dst _ h1 h2 w
    · have hE : lineErr l = 5 := by unfold lineErr; rw [if_pos hk1, if_neg hz]
      rw [hE, hk1]
      by_cases z0 : l.f = 0
      · rw [z0]
        by_cases z1 : l.t = 0
        · rw [z1]
          by_cases z2 : l.m = 0
          · rw [z2]
            by_cases z3 : l.dk = 0
            · rw [z3]
              by_cases z4 : l.dn = 0
              · rw [z4]
                by_cases z5 : l.dw = 0
                · rw [z5]
                  by_cases z6 : l.ti = 0
                  · rw [z6]
                    exact mayAt_rd _ _ _ _ _ (fun z7 => hz ⟨z0, z1, z2, z3, z4, z5, z6, z7⟩) w
                  · exact mayAt_ti _ _ _ _ _ _ z6 w
                · exact mayAt_dw _ _ _ _ _ _ _ z5 w
              · exact mayAt_dn _ _ _ _ _ _ _ _ z4 w
            · exact mayAt_dk _ _ _ _ _ _ _ _ _ z3 w
          · exact mayAt_m _ _ _ _ _ _ _ _ _ _ z2 w
        · exact mayAt_t _ _ _ _ _ _ _ _ _ _ _ z1 w
      · exact mayAt_f _ _ _ _ _ _ _ _ _ _ _ _ z0 w
  · by_cases hk2 : l.k = 2
    · rw [hk2]
      refine mayRu_of _ _ _ _ _ _ _ _ _ _ _ _ (yrB l.f) (mayD l.dk l.dn l.dw) (lineErr l) rfl rfl ?_ w
      unfold lineErr
      rw [if_neg hk1, if_pos hk2, ← toB_yr]
      simp only [yrB_iff, rd_dec]
    · have hE : lineErr l = 5 := by unfold lineErr; rw [if_neg hk1, if_neg hk2]
      rw [hE]
      exact mayAt_kind _ _ _ _ _ _ _ _ _ _ _ _ _ hk1 hk2 w
end Go.Proofs.YtafecnlaodgmkaaGreatDoor
namespace Go.Proofs.YtafecnlaodgmkaaGreatDoor
set_option linter.unusedVariables false
set_option linter.unusedSimpArgs false
open Go.ChangeShapes Go.WideShapes Go.ChangeAt Go.RowKit
theorem lnsErr_take {ls : List Lin} {k : Nat} (h : k < ls.length) (e : Int) : lnsErr e (ls.take (k + 1)) = fsI (fsI (lnsErr e (ls.take k)) (lineErr ls[k])) (triE ls[k].off ls[k].abb) := by
  unfold lnsErr
  rw [List.take_succ_eq_append_getElem h, List.foldl_append]
  rfl
theorem rFirst_two (x y : Int) (T : TypeId) (w : World) : Calls Tryz.prog 24 #[.slice (some ⟨w.heap.size, 0, none⟩) 2 2] (w.alloc (.cells #[.int .i64 x, .int .i64 y] T)) fun e w' => e = .returned (.int .i64 (fsI x y)) ∧ Below (w.alloc (.cells #[.int .i64 x, .int .i64 y] T)).heap.size (w.alloc (.cells #[.int .i64 x, .int .i64 y] T)) w' := by
  have r := heap_alloc_new w (.cells #[.int .i64 x, .int .i64 y] T)
  have c := row_cellA r
  exact rFirst_any x y w.heap.size _ (c 0) (c 1)
theorem rFirst3_two (x y z : Int) (T : TypeId) (w : World) : Calls Tryz.prog 24 #[.slice (some ⟨w.heap.size, 0, none⟩) 3 3] (w.alloc (.cells #[.int .i64 x, .int .i64 y, .int .i64 z] T)) fun e w' => e = .returned (.int .i64 (fsI (fsI x y) z)) ∧ Below (w.alloc (.cells #[.int .i64 x, .int .i64 y, .int .i64 z] T)).heap.size (w.alloc (.cells #[.int .i64 x, .int .i64 y, .int .i64 z] T)) w' := by
  have c := row_cellA (heap_alloc_new w (.cells #[.int .i64 x, .int .i64 y, .int .i64 z] T))
  have hR : Rd (w.alloc (.cells #[.int .i64 x, .int .i64 y, .int .i64 z] T)) (some ⟨w.heap.size, 0, none⟩) ([x, y, z].map (fun x => Value.int .i64 x)) := by
    intro j u hu
    refine ⟨w.heap.size, 0, rfl, by simp, ?_⟩
    have h3 : j < 3 := by have := (List.getElem?_eq_some_iff.1 hu).1; simpa using this
    rw [Nat.zero_add, c j]
    match j, h3 with
    | 0, _ => exact hu
    | 1, _ => exact hu
    | 2, _ => exact hu
  have V : [x, y, z].foldl fsI 0 = fsI (fsI x y) z := by
    show fsI (fsI (fsI 0 x) y) z = _
    rw [show fsI 0 x = x by unfold fsI; rw [if_pos rfl]]
  have := rFirst_list [x, y, z] _ 3 _ (by simp) hR
  rw [V] at this
  exact this
set_option maxHeartbeats 6400000 in
set_option maxRecDepth 100000 in
theorem rCheck15_any (z : Src) (A : Option Addr) (c : Nat) (w : World) (h : Rd w A (linVs z.lns)) (hn : z.nam.length ≤ 9223372036854775807) (hb : z.abb.length ≤ 9223372036854775807) (hl : ∀ l ∈ z.lns, l.abb.length ≤ 9223372036854775807) :
    Calls Tryz.prog 13 #[srcV z A c] w fun e w' => e = .returned (.int .i64 (ckR z)) ∧ Below w.heap.size w w' := by
  obtain ⟨nam, off, dst, abb, ls⟩ := z
  simp only at h hn hb hl
  unfold srcV
  simp only
  have hH := Lib.hid h
  by_cases h16 : 16 < ls.length
  · have E : Hid (ckR ⟨nam, off, dst, abb, ls⟩ = 1) := Lib.hid (by unfold ckR; exact if_pos (Or.inl h16))
    go_enter Tryz.func13, Tryz.ntmps13
    go_wp2
    go_ret
    exact ⟨by rw [E.out]; rfl, (Below.refl _ w).alloc (Nat.le_refl _) _⟩
  · have HT := Lib.hid (rTails_any ls A c (w.alloc (Obj.cells #[.string (bs nam), .int .i64 off, .bool dst, .string (bs abb), .slice A ls.length c] 30)) (by omega) (h.below ((Below.refl _ w).alloc (Nat.le_refl _) _) (Nat.le_refl _)))
    by_cases h4 : 4 < tailN ls
    · have E : Hid (ckR ⟨nam, off, dst, abb, ls⟩ = 1) := Lib.hid (by unfold ckR; exact if_pos (Or.inr h4))
      generalize tailN ls = tn at *
      generalize ckR ⟨nam, off, dst, abb, ls⟩ = R at *
      go_enter Tryz.func13, Tryz.ntmps13
      go_wp2_with fail
      refine HT.out.mono ?_
      rintro e w1 ⟨rfl, rfl⟩
      go_wp2
      go_ret
      exact ⟨by rw [E.out]; rfl, (Below.refl _ w).alloc (Nat.le_refl _) _⟩
    · have E : Hid (ckR ⟨nam, off, dst, abb, ls⟩ = lnsErr (if dst = true then fsI (fsI (namE nam) (triE off abb)) 5 else fsI (namE nam) (triE off abb)) ls) := Lib.hid (by unfold ckR; exact if_neg (by intro e; rcases e with e | e; exact h16 e; exact h4 e))
      have HN := Lib.hid (fun w => grow_of2 (rName_all nam hn w))
      have HB := Lib.hid (rMayTri_any off dst abb hb)
      generalize tailN ls = tn at *
      generalize ckR ⟨nam, off, dst, abb, ls⟩ = R at *
      generalize namE nam = nE at *
      generalize triE off abb = tE at *
      obtain ⟨E0, hE0⟩ : ∃ x, Hid (x = fsI nE tE) := ⟨_, Lib.hid rfl⟩
      obtain ⟨E1, hE1⟩ : ∃ x, Hid (x = if dst = true then fsI E0 5 else E0) := ⟨_, Lib.hid rfl⟩
      rw [← hE0.out, ← hE1.out] at E
      go_enter Tryz.func13, Tryz.ntmps13
      go_wp2_with fail
      refine HT.out.mono ?_
      rintro e w1 ⟨rfl, rfl⟩
      clear HT
      go_simp
      go_wp2_with fail
      
      obtain ⟨W0, hW0⟩ : ∃ W0, W0 = (w.alloc (Obj.cells #[Value.string (bs nam), Value.int .i64 off, Value.bool dst, Value.string (bs abb), Value.slice A ls.length c] 30)) := ⟨_, rfl⟩
      have A1 := Lib.hid (row_at (k' := w.heap.size) (by simp) (row_by hW0 (heap_alloc_new _ _)))
      have HB0 := Lib.hid (below_by hW0 ((Below.refl w.heap.size w).alloc (by simp <;> omega) _))
      have HW0 := Lib.hid hW0
      clear hW0
      obtain ⟨A1_0, A1_1, A1_2, A1_3, A1_4⟩ := qw5 A1
      have zA1 := lt_of_heap A1.out
      try rw [← HW0.out]
      go_cut [3] (fun s3 wx => s3 = .int .i64 (fsI nE tE) ∧ Below W0.heap.size W0 wx)
      case first =>
        go_region_held3 (fun w' => Below W0.heap.size W0 w' ∧ w'.cell? ⟨w.heap.size, 0, none⟩ = some (.string (bs nam)) ∧ w'.cell? ⟨w.heap.size, 1, none⟩ = some (.int .i64 off) ∧ w'.cell? ⟨w.heap.size, 2, none⟩ = some (.bool dst) ∧ w'.cell? ⟨w.heap.size, 3, none⟩ = some (.string (bs abb)) ∧ w'.cell? ⟨w.heap.size, 4, none⟩ = some (.slice A ls.length c))
    (first
      | ((try go_split_ands); refine ⟨(Below.refl _ _).drew, ?_, ?_, ?_, ?_, ?_⟩ <;> first | assumption | (rw [World.cell?_drew]; assumption))
      | ((try go_split_ands); refine ⟨keepS (W0 := W0) ?_ hb1, cellS (W0 := W0) ?_ hb1 ?_ ?_, cellS (W0 := W0) ?_ hb1 ?_ ?_, cellS (W0 := W0) ?_ hb1 ?_ ?_, cellS (W0 := W0) ?_ hb1 ?_ ?_, cellS (W0 := W0) ?_ hb1 ?_ ?_⟩ <;> first | assumption | omega)
      | ((try go_split_ands); refine ⟨keepA (W0 := W0) ?_ _, cellA (W0 := W0) ?_ _ ?_ ?_, cellA (W0 := W0) ?_ _ ?_ ?_, cellA (W0 := W0) ?_ _ ?_ ?_, cellA (W0 := W0) ?_ _ ?_ ?_, cellA (W0 := W0) ?_ _ ?_ ?_⟩ <;> first | assumption | omega)
      | ((try go_split_ands); refine ⟨keepAd (W0 := W0) ?_ _, cellAd (W0 := W0) ?_ _ ?_ ?_, cellAd (W0 := W0) ?_ _ ?_ ?_, cellAd (W0 := W0) ?_ _ ?_ ?_, cellAd (W0 := W0) ?_ _ ?_ ?_, cellAd (W0 := W0) ?_ _ ?_ ?_⟩ <;> first | assumption | omega | exact Below.refl _ _)
      | ((try go_split_ands); (with_reducible refine ⟨keep3 (W0 := W0) ?_ ?_ _ _ _, cell3 (W0 := W0) ?_ _ _ _ ?_ ?_, cell3 (W0 := W0) ?_ _ _ _ ?_ ?_, cell3 (W0 := W0) ?_ _ _ _ ?_ ?_, cell3 (W0 := W0) ?_ _ _ _ ?_ ?_, cell3 (W0 := W0) ?_ _ _ _ ?_ ?_⟩) <;> first | assumption | omega | exact Nat.le_refl _)
      | ((try go_split_ands); refine ⟨keep2 (W0 := W0) ?_ ?_ _ _, cell2 (W0 := W0) ?_ _ _ ?_ ?_, cell2 (W0 := W0) ?_ _ _ ?_ ?_, cell2 (W0 := W0) ?_ _ _ ?_ ?_, cell2 (W0 := W0) ?_ _ _ ?_ ?_, cell2 (W0 := W0) ?_ _ _ ?_ ?_⟩ <;> first | assumption | omega | exact Nat.le_refl _)
      | ((try go_split_ands); refine ⟨keepZ (W0 := W0) ?_ ?_ _, cellZ (W0 := W0) ?_ _ ?_ ?_, cellZ (W0 := W0) ?_ _ ?_ ?_, cellZ (W0 := W0) ?_ _ ?_ ?_, cellZ (W0 := W0) ?_ _ ?_ ?_, cellZ (W0 := W0) ?_ _ ?_ ?_⟩ <;> first | assumption | omega | exact Nat.le_refl _ | exact ⟨_, by assumption⟩))
    (first | (go_at_call 25; (with_reducible refine (HN.out _).mono ?_); rintro e w1 ⟨rfl, hb1⟩; (try go_split_ands); have hge : W0.heap.size ≤ w1.heap.size := (by first | (refine (keepS (W0 := W0) ?_ hb1).size; assumption) | exact (hb1.size : W0.heap.size ≤ w1.heap.size)); (try have hrow := row_call hb1 hrow); (try have hrow := row_new hb1); (try have hrow := row_newd hb1); have hl1 := lt_below hb1; obtain ⟨hc1, hf1⟩ := bcell hb1; (try (have hrc := row_cellA hrow; clear hc1 hf1)); (try have hrf := row_frozA hrow)) | (go_at_call 26; (with_reducible refine (HB.out _).mono ?_); rintro e w1 ⟨rfl, hb1⟩; (try go_split_ands); have hge : W0.heap.size ≤ w1.heap.size := (by first | (refine (keepS (W0 := W0) ?_ hb1).size; assumption) | exact (hb1.size : W0.heap.size ≤ w1.heap.size)); (try have hrow := row_call hb1 hrow); (try have hrow := row_new hb1); (try have hrow := row_newd hb1); have hl1 := lt_below hb1; obtain ⟨hc1, hf1⟩ := bcell hb1; (try (have hrc := row_cellA hrow; clear hc1 hf1)); (try have hrf := row_frozA hrow)) | (go_at_call 24; refine (rFirst_two _ _ _ _).mono ?_; rintro e w1 ⟨rfl, hb1⟩; (try go_split_ands); have hge : W0.heap.size ≤ w1.heap.size := (by first | (refine (keepS (W0 := W0) ?_ hb1).size; assumption) | exact (hb1.size : W0.heap.size ≤ w1.heap.size)); (try have hrow := row_call hb1 hrow); (try have hrow := row_new hb1); (try have hrow := row_newd hb1); have hl1 := lt_below hb1; obtain ⟨hc1, hf1⟩ := bcell hb1; (try (have hrc := row_cellA hrow; clear hc1 hf1)); (try have hrf := row_frozA hrow)))
        all_goals (try go_split_ands)
        all_goals (go_wp2_with fail; go_meet; refine ⟨rfl, ?_⟩)
        all_goals first | (with_reducible assumption) | (with_reducible exact heap_alloc_new _ _) | (with_reducible exact row_set3 (by assumption) _ _ _) | assumption | exact heap_alloc_new _ _ | exact row_set (by assumption) _ _
      case rest =>
        obtain ⟨rfl, hB⟩ := hcut
        obtain ⟨V1, rfl⟩ : ∃ V, V = wc := ⟨_, rfl⟩
        clear A1_0 A1_1 A1_2 A1_3 A1_4 zA1
        replace A1 := Lib.hid (row_call hB A1.out)
        have B1 := Lib.hid (HB0.out.trans (hB.mono HB0.out.size))
        clear hB
        obtain ⟨A1_0, A1_1, A1_2, A1_3, A1_4⟩ := qw5 A1
        have zA1 := lt_of_heap A1.out
        rw [← hE0.out]
        have hE1f : Hid (dst = false → E1 = E0) := Lib.hid (fun e => by rw [hE1.out, e]; rfl)
        have hE1t : Hid (dst = true → E1 = fsI E0 5) := Lib.hid (fun e => by rw [hE1.out, e]; rfl)
        replace hE1 := Lib.hid hE1
        obtain ⟨J, hJ⟩ : ∃ J, Hid (J = E1) := ⟨_, Lib.hid rfl⟩
        by_cases hd : dst = true
        · have e := Lib.hid (hE1t.out hd)
          subst hd
          go_wp2_with fail
          refine (rFirst_new _ _ _ _).mono ?_
          rintro e9 V2 ⟨rfl, hb2⟩
          have A2 := Lib.hid (row_call hb2 A1.out)
          have B2 := Lib.hid (B1.out.trans (hb2.mono B1.out.size))
          have A2_4 : V2.cell? ⟨w.heap.size, 4, none⟩ = some (.slice A ls.length c) := crx A2
          clear hb2 A1_0 A1_1 A1_2 A1_3 A1_4 zA1 A1 B1 HN HB hE1f hE1t
          rw [← e.out]
          go_wp2
          go_loopw [3, 4] (fun e i wr => ∃ k : Nat, k ≤ ls.length ∧ i = .int .i64 (k : Int) ∧ e = .int .i64 (lnsErr E1 (ls.take k)) ∧ Hid (Below w.heap.size w wr) ∧ Hid (wr.heap[w.heap.size]? = some (.cells #[.string (bs nam), .int .i64 off, .bool true, .string (bs abb), .slice A ls.length c] 30 (0, 0)))) (fun _ i _ => ls.length - (intOf i).toNat)
          case atStart => exact ⟨0, by omega, rfl, rfl, B2, A2⟩
          case round =>
            obtain ⟨k, hk, rfl, rfl, B20, A1⟩ := hrel
            obtain ⟨V20, rfl⟩ : ∃ V, V = wr := ⟨_, rfl⟩
            clear A2 B2
            by_cases hlt : k < ls.length
            · obtain ⟨b, o, rfl, hbl, hc⟩ := (hH.out.below B20.out (Nat.le_refl _)).lin hlt
              obtain ⟨c0, c1, c2, c3, c4, c5, c6, c7, c8, c9, c10, c11, c12⟩ := hc k hlt
              have HM := Lib.hid (rMayLine_any ls[k])
              have HT2 := Lib.hid (rMayTri_any ls[k].off ls[k].dst ls[k].abb (hl ls[k] (by simp)))
              have hnext := Lib.hid (lnsErr_take hlt E1)
              have hkT : (k : Int) < (ls.length : Int) := by omega
              clear hc
              obtain ⟨p, hp⟩ : ∃ p, o + k * 13 = p := ⟨_, rfl⟩
              rw [hp] at c0 c1 c2 c3 c4 c5 c6 c7 c8 c9 c10 c11 c12
              generalize lineErr ls[k] = eL at *
              generalize triE ls[k].off ls[k].abb = eT at *
              generalize lnsErr E1 (ls.take k) = eK at *
              generalize hlk : ls[k] = l at *
              obtain ⟨lk, lsec, lf, lt, lm, ldk, ldn, ldw, lti, lrd, lof, lds, lab⟩ := l
              simp only at c0 c1 c2 c3 c4 c5 c6 c7 c8 c9 c10 c11 c12 HM HT2
              replace hlk := Lib.hid hlk
              
              obtain ⟨A1_0, A1_1, A1_2, A1_3, A1_4⟩ := qw5 A1
              have zA1 := lt_of_heap A1.out
              go_wp2_with fail
              have HF := Lib.hid (fun w => rFirst3_two eK eL eT 3 w)
              obtain ⟨W0, hW0⟩ : ∃ W0, W0 = V20 := ⟨_, rfl⟩
              replace A1 := Lib.hid (row_by hW0 A1.out)
              clear A1_0 A1_1 A1_2 A1_3 A1_4 zA1
              obtain ⟨A1_0, A1_1, A1_2, A1_3, A1_4⟩ := qw5 A1
              have zA1 := lt_of_heap A1.out
              have xc0 : W0.cell? ⟨b, p, none⟩ = some (.int .i64 lk) := by (rw [hW0]; first | assumption | (simp; assumption))
              have xc1 : W0.cell? ⟨b, p + 1, none⟩ = some (.int .i64 lsec) := by (rw [hW0]; first | assumption | (simp; assumption))
              have xc2 : W0.cell? ⟨b, p + 2, none⟩ = some (.int .i64 lf) := by (rw [hW0]; first | assumption | (simp; assumption))
              have xc3 : W0.cell? ⟨b, p + 3, none⟩ = some (.int .i64 lt) := by (rw [hW0]; first | assumption | (simp; assumption))
              have xc4 : W0.cell? ⟨b, p + 4, none⟩ = some (.int .i64 lm) := by (rw [hW0]; first | assumption | (simp; assumption))
              have xc5 : W0.cell? ⟨b, p + 5, none⟩ = some (.int .i64 ldk) := by (rw [hW0]; first | assumption | (simp; assumption))
              have xc6 : W0.cell? ⟨b, p + 6, none⟩ = some (.int .i64 ldn) := by (rw [hW0]; first | assumption | (simp; assumption))
              have xc7 : W0.cell? ⟨b, p + 7, none⟩ = some (.int .i64 ldw) := by (rw [hW0]; first | assumption | (simp; assumption))
              have xc8 : W0.cell? ⟨b, p + 8, none⟩ = some (.int .i64 lti) := by (rw [hW0]; first | assumption | (simp; assumption))
              have xc9 : W0.cell? ⟨b, p + 9, none⟩ = some (.int .i64 lrd) := by (rw [hW0]; first | assumption | (simp; assumption))
              have xc10 : W0.cell? ⟨b, p + 10, none⟩ = some (.int .i64 lof) := by (rw [hW0]; first | assumption | (simp; assumption))
              have xc11 : W0.cell? ⟨b, p + 11, none⟩ = some (.bool lds) := by (rw [hW0]; first | assumption | (simp; assumption))
              have xc12 : W0.cell? ⟨b, p + 12, none⟩ = some (.string (bs lab)) := by (rw [hW0]; first | assumption | (simp; assumption))
              have HB0 := Lib.hid (below_by hW0 (B20.out))
              have zXC : b < W0.heap.size := by first | (have := HB0.out.size; omega) | (rw [hW0]; omega) | (rw [hW0]; simp; omega)
              have zW0 := HB0.out.size
              have HW0 := Lib.hid hW0
              clear hW0
              try go_simp
              rw [← HW0.out]
              refine region_plan (S := fun w2 => w2.cell? ⟨w.heap.size, 0, none⟩ = some (.string (bs nam)) ∧ w2.cell? ⟨w.heap.size, 1, none⟩ = some (.int .i64 off) ∧ w2.cell? ⟨w.heap.size, 2, none⟩ = some (.bool true) ∧ w2.cell? ⟨w.heap.size, 3, none⟩ = some (.string (bs abb)) ∧ w2.cell? ⟨w.heap.size, 4, none⟩ = some (.slice (some ⟨b, o, none⟩) ls.length c) ∧ w2.cell? ⟨b, p, none⟩ = some (.int .i64 lk) ∧ w2.cell? ⟨b, p + 1, none⟩ = some (.int .i64 lsec) ∧ w2.cell? ⟨b, p + 2, none⟩ = some (.int .i64 lf) ∧ w2.cell? ⟨b, p + 3, none⟩ = some (.int .i64 lt) ∧ w2.cell? ⟨b, p + 4, none⟩ = some (.int .i64 lm) ∧ w2.cell? ⟨b, p + 5, none⟩ = some (.int .i64 ldk) ∧ w2.cell? ⟨b, p + 6, none⟩ = some (.int .i64 ldn) ∧ w2.cell? ⟨b, p + 7, none⟩ = some (.int .i64 ldw) ∧ w2.cell? ⟨b, p + 8, none⟩ = some (.int .i64 lti) ∧ w2.cell? ⟨b, p + 9, none⟩ = some (.int .i64 lrd) ∧ w2.cell? ⟨b, p + 10, none⟩ = some (.int .i64 lof) ∧ w2.cell? ⟨b, p + 11, none⟩ = some (.bool lds) ∧ w2.cell? ⟨b, p + 12, none⟩ = some (.string (bs lab))) [(0, true), (1, true), (2, true), (3, true), (4, true), (5, true), (7, true), (8, true), (9, true), (10, true), (11, true), (12, true), (6, false), (13, false), (14, false), (15, false), (16, true)] (by as_aux_lemma => kernel_rfl) (by as_aux_lemma => kernel_rfl) (by as_aux_lemma => kernel_rfl) (by as_aux_lemma => kernel_rfl) ⟨(by rw [World.cell?_drew]; exact A1_0), (by rw [World.cell?_drew]; exact A1_1), (by rw [World.cell?_drew]; exact A1_2), (by rw [World.cell?_drew]; exact A1_3), (by rw [World.cell?_drew]; exact A1_4), (by rw [World.cell?_drew]; exact xc0), (by rw [World.cell?_drew]; exact xc1), (by rw [World.cell?_drew]; exact xc2), (by rw [World.cell?_drew]; exact xc3), (by rw [World.cell?_drew]; exact xc4), (by rw [World.cell?_drew]; exact xc5), (by rw [World.cell?_drew]; exact xc6), (by rw [World.cell?_drew]; exact xc7), (by rw [World.cell?_drew]; exact xc8), (by rw [World.cell?_drew]; exact xc9), (by rw [World.cell?_drew]; exact xc10), (by rw [World.cell?_drew]; exact xc11), (by rw [World.cell?_drew]; exact xc12)⟩ ?_
              have Y0 := Lib.hid (Below.refl W0.heap.size W0).drew
              refine plan_yes (v := ?v1_1) (by simp only [List.getElem?_toArray, List.getElem?_cons_zero, List.getElem?_cons_succ]; exact rfl) (Or.inl ⟨by as_aux_lemma => rfl, ?hy1_1⟩) ?rest1_1
              case hy1_1 => (intro w2 hSw; (try dsimp only at hSw); obtain ⟨s0, s1, s2, s3, s4, s5, s6, s7, s8, s9, s10, s11, s12, s13, s14, s15, s16, s17⟩ := hSw; go_simp; try with_reducible rfl)
              try simp only [Act.put, List.setIfInBounds_toArray, List.set_cons_zero, List.set_cons_succ]
              refine plan_yes (v := ?v2_1) (by simp only [List.getElem?_toArray, List.getElem?_cons_zero, List.getElem?_cons_succ]; exact rfl) (Or.inl ⟨by as_aux_lemma => rfl, ?hy2_1⟩) ?rest2_1
              case hy2_1 => (intro w2 hSw; (try dsimp only at hSw); obtain ⟨s0, s1, s2, s3, s4, s5, s6, s7, s8, s9, s10, s11, s12, s13, s14, s15, s16, s17⟩ := hSw; go_simp; try with_reducible rfl)
              try simp only [Act.put, List.setIfInBounds_toArray, List.set_cons_zero, List.set_cons_succ]
              refine plan_yes (v := ?v3_1) (by simp only [List.getElem?_toArray, List.getElem?_cons_zero, List.getElem?_cons_succ]; exact rfl) (Or.inl ⟨by as_aux_lemma => rfl, ?hy3_1⟩) ?rest3_1
              case hy3_1 => (intro w2 hSw; (try dsimp only at hSw); obtain ⟨s0, s1, s2, s3, s4, s5, s6, s7, s8, s9, s10, s11, s12, s13, s14, s15, s16, s17⟩ := hSw; go_simp; try with_reducible rfl)
              try simp only [Act.put, List.setIfInBounds_toArray, List.set_cons_zero, List.set_cons_succ]
              refine plan_yes (v := ?v4_1) (by simp only [List.getElem?_toArray, List.getElem?_cons_zero, List.getElem?_cons_succ]; exact rfl) (Or.inl ⟨by as_aux_lemma => rfl, ?hy4_1⟩) ?rest4_1
              case hy4_1 => (intro w2 hSw; (try dsimp only at hSw); obtain ⟨s0, s1, s2, s3, s4, s5, s6, s7, s8, s9, s10, s11, s12, s13, s14, s15, s16, s17⟩ := hSw; go_simp; try with_reducible rfl)
              try simp only [Act.put, List.setIfInBounds_toArray, List.set_cons_zero, List.set_cons_succ]
              refine plan_yes (v := ?v5_1) (by simp only [List.getElem?_toArray, List.getElem?_cons_zero, List.getElem?_cons_succ]; exact rfl) (Or.inl ⟨by as_aux_lemma => rfl, ?hy5_1⟩) ?rest5_1
              case hy5_1 => (intro w2 hSw; (try dsimp only at hSw); obtain ⟨s0, s1, s2, s3, s4, s5, s6, s7, s8, s9, s10, s11, s12, s13, s14, s15, s16, s17⟩ := hSw; go_simp; try with_reducible rfl)
              try simp only [Act.put, List.setIfInBounds_toArray, List.set_cons_zero, List.set_cons_succ]
              refine plan_yes (v := ?v6_1) (by simp only [List.getElem?_toArray, List.getElem?_cons_zero, List.getElem?_cons_succ]; exact rfl) (Or.inl ⟨by as_aux_lemma => rfl, ?hy6_1⟩) ?rest6_1
              case hy6_1 => (intro w2 hSw; (try dsimp only at hSw); obtain ⟨s0, s1, s2, s3, s4, s5, s6, s7, s8, s9, s10, s11, s12, s13, s14, s15, s16, s17⟩ := hSw; go_simp; try with_reducible rfl)
              try simp only [Act.put, List.setIfInBounds_toArray, List.set_cons_zero, List.set_cons_succ]
              refine plan_yes (v := ?v7_1) (by simp only [List.getElem?_toArray, List.getElem?_cons_zero, List.getElem?_cons_succ]; exact rfl) (Or.inl ⟨by as_aux_lemma => rfl, ?hy7_1⟩) ?rest7_1
              case hy7_1 => (intro w2 hSw; (try dsimp only at hSw); obtain ⟨s0, s1, s2, s3, s4, s5, s6, s7, s8, s9, s10, s11, s12, s13, s14, s15, s16, s17⟩ := hSw; go_simp; try with_reducible rfl)
              try simp only [Act.put, List.setIfInBounds_toArray, List.set_cons_zero, List.set_cons_succ]
              refine plan_yes (v := ?v8_1) (by simp only [List.getElem?_toArray, List.getElem?_cons_zero, List.getElem?_cons_succ]; exact rfl) (Or.inl ⟨by as_aux_lemma => rfl, ?hy8_1⟩) ?rest8_1
              case hy8_1 => (intro w2 hSw; (try dsimp only at hSw); obtain ⟨s0, s1, s2, s3, s4, s5, s6, s7, s8, s9, s10, s11, s12, s13, s14, s15, s16, s17⟩ := hSw; go_simp; try with_reducible rfl)
              try simp only [Act.put, List.setIfInBounds_toArray, List.set_cons_zero, List.set_cons_succ]
              refine plan_yes (v := ?v9_1) (by simp only [List.getElem?_toArray, List.getElem?_cons_zero, List.getElem?_cons_succ]; exact rfl) (Or.inl ⟨by as_aux_lemma => rfl, ?hy9_1⟩) ?rest9_1
              case hy9_1 => (intro w2 hSw; (try dsimp only at hSw); obtain ⟨s0, s1, s2, s3, s4, s5, s6, s7, s8, s9, s10, s11, s12, s13, s14, s15, s16, s17⟩ := hSw; go_simp; try with_reducible rfl)
              try simp only [Act.put, List.setIfInBounds_toArray, List.set_cons_zero, List.set_cons_succ]
              refine plan_yes (v := ?v10_1) (by simp only [List.getElem?_toArray, List.getElem?_cons_zero, List.getElem?_cons_succ]; exact rfl) (Or.inl ⟨by as_aux_lemma => rfl, ?hy10_1⟩) ?rest10_1
              case hy10_1 => (intro w2 hSw; (try dsimp only at hSw); obtain ⟨s0, s1, s2, s3, s4, s5, s6, s7, s8, s9, s10, s11, s12, s13, s14, s15, s16, s17⟩ := hSw; go_simp; try with_reducible rfl)
              try simp only [Act.put, List.setIfInBounds_toArray, List.set_cons_zero, List.set_cons_succ]
              refine plan_yes (v := ?v11_1) (by simp only [List.getElem?_toArray, List.getElem?_cons_zero, List.getElem?_cons_succ]; exact rfl) (Or.inl ⟨by as_aux_lemma => rfl, ?hy11_1⟩) ?rest11_1
              case hy11_1 => (intro w2 hSw; (try dsimp only at hSw); obtain ⟨s0, s1, s2, s3, s4, s5, s6, s7, s8, s9, s10, s11, s12, s13, s14, s15, s16, s17⟩ := hSw; go_simp; try with_reducible rfl)
              try simp only [Act.put, List.setIfInBounds_toArray, List.set_cons_zero, List.set_cons_succ]
              refine plan_yes (v := ?v12_1) (by simp only [List.getElem?_toArray, List.getElem?_cons_zero, List.getElem?_cons_succ]; exact rfl) (Or.inl ⟨by as_aux_lemma => rfl, ?hy12_1⟩) ?rest12_1
              case hy12_1 => (intro w2 hSw; (try dsimp only at hSw); obtain ⟨s0, s1, s2, s3, s4, s5, s6, s7, s8, s9, s10, s11, s12, s13, s14, s15, s16, s17⟩ := hSw; go_simp; try with_reducible rfl)
              try simp only [Act.put, List.setIfInBounds_toArray, List.set_cons_zero, List.set_cons_succ]
              refine plan_calls (by simp only [List.getElem?_toArray, List.getElem?_cons_zero, List.getElem?_cons_succ]; exact rfl) (by as_aux_lemma => rfl) (fun K hK => ?_)
              go_simp
              refine (HM.out _).mono ?_
              rintro e Y1w ⟨rfl, hb1⟩
              have Y1 := Lib.hid (keepS (W0 := W0) Y0.out hb1)
              clear hb1
              refine hK.out _ _ ⟨((Y1.out.cell (p := ⟨w.heap.size, 0, none⟩) zA1).trans A1_0), ((Y1.out.cell (p := ⟨w.heap.size, 1, none⟩) zA1).trans A1_1), ((Y1.out.cell (p := ⟨w.heap.size, 2, none⟩) zA1).trans A1_2), ((Y1.out.cell (p := ⟨w.heap.size, 3, none⟩) zA1).trans A1_3), ((Y1.out.cell (p := ⟨w.heap.size, 4, none⟩) zA1).trans A1_4), ((Y1.out.cell (p := ⟨b, p, none⟩) zXC).trans xc0), ((Y1.out.cell (p := ⟨b, p + 1, none⟩) zXC).trans xc1), ((Y1.out.cell (p := ⟨b, p + 2, none⟩) zXC).trans xc2), ((Y1.out.cell (p := ⟨b, p + 3, none⟩) zXC).trans xc3), ((Y1.out.cell (p := ⟨b, p + 4, none⟩) zXC).trans xc4), ((Y1.out.cell (p := ⟨b, p + 5, none⟩) zXC).trans xc5), ((Y1.out.cell (p := ⟨b, p + 6, none⟩) zXC).trans xc6), ((Y1.out.cell (p := ⟨b, p + 7, none⟩) zXC).trans xc7), ((Y1.out.cell (p := ⟨b, p + 8, none⟩) zXC).trans xc8), ((Y1.out.cell (p := ⟨b, p + 9, none⟩) zXC).trans xc9), ((Y1.out.cell (p := ⟨b, p + 10, none⟩) zXC).trans xc10), ((Y1.out.cell (p := ⟨b, p + 11, none⟩) zXC).trans xc11), ((Y1.out.cell (p := ⟨b, p + 12, none⟩) zXC).trans xc12)⟩ ?_
              clear hK K
              try simp only [Act.put, List.setIfInBounds_toArray, List.set_cons_zero, List.set_cons_succ]
              as_aux_lemma =>
               refine plan_calls (by simp only [List.getElem?_toArray, List.getElem?_cons_zero, List.getElem?_cons_succ]; exact rfl) (by as_aux_lemma => rfl) (fun K hK => ?_)
               go_simp
               refine (HT2.out _).mono ?_
               rintro e Y2w ⟨rfl, hb1⟩
               have Y2 := Lib.hid (keepS (W0 := W0) Y1.out hb1)
               clear hb1
               refine hK.out _ _ ⟨((Y2.out.cell (p := ⟨w.heap.size, 0, none⟩) zA1).trans A1_0), ((Y2.out.cell (p := ⟨w.heap.size, 1, none⟩) zA1).trans A1_1), ((Y2.out.cell (p := ⟨w.heap.size, 2, none⟩) zA1).trans A1_2), ((Y2.out.cell (p := ⟨w.heap.size, 3, none⟩) zA1).trans A1_3), ((Y2.out.cell (p := ⟨w.heap.size, 4, none⟩) zA1).trans A1_4), ((Y2.out.cell (p := ⟨b, p, none⟩) zXC).trans xc0), ((Y2.out.cell (p := ⟨b, p + 1, none⟩) zXC).trans xc1), ((Y2.out.cell (p := ⟨b, p + 2, none⟩) zXC).trans xc2), ((Y2.out.cell (p := ⟨b, p + 3, none⟩) zXC).trans xc3), ((Y2.out.cell (p := ⟨b, p + 4, none⟩) zXC).trans xc4), ((Y2.out.cell (p := ⟨b, p + 5, none⟩) zXC).trans xc5), ((Y2.out.cell (p := ⟨b, p + 6, none⟩) zXC).trans xc6), ((Y2.out.cell (p := ⟨b, p + 7, none⟩) zXC).trans xc7), ((Y2.out.cell (p := ⟨b, p + 8, none⟩) zXC).trans xc8), ((Y2.out.cell (p := ⟨b, p + 9, none⟩) zXC).trans xc9), ((Y2.out.cell (p := ⟨b, p + 10, none⟩) zXC).trans xc10), ((Y2.out.cell (p := ⟨b, p + 11, none⟩) zXC).trans xc11), ((Y2.out.cell (p := ⟨b, p + 12, none⟩) zXC).trans xc12)⟩ ?_
               clear hK K
               try simp only [Act.put, List.setIfInBounds_toArray, List.set_cons_zero, List.set_cons_succ]
               as_aux_lemma =>
                refine plan_calls (by simp only [List.getElem?_toArray, List.getElem?_cons_zero, List.getElem?_cons_succ]; exact rfl) (by as_aux_lemma => rfl) (fun K hK => ?_)
                go_simp
                replace Y2 := Lib.hid (keepA (W0 := W0) Y2.out (Obj.cells #[Value.int .i64 eK, Value.int .i64 eL, Value.int .i64 eT] 3))
                refine hK.out _ _ ⟨((Y2.out.cell (p := ⟨w.heap.size, 0, none⟩) zA1).trans A1_0), ((Y2.out.cell (p := ⟨w.heap.size, 1, none⟩) zA1).trans A1_1), ((Y2.out.cell (p := ⟨w.heap.size, 2, none⟩) zA1).trans A1_2), ((Y2.out.cell (p := ⟨w.heap.size, 3, none⟩) zA1).trans A1_3), ((Y2.out.cell (p := ⟨w.heap.size, 4, none⟩) zA1).trans A1_4), ((Y2.out.cell (p := ⟨b, p, none⟩) zXC).trans xc0), ((Y2.out.cell (p := ⟨b, p + 1, none⟩) zXC).trans xc1), ((Y2.out.cell (p := ⟨b, p + 2, none⟩) zXC).trans xc2), ((Y2.out.cell (p := ⟨b, p + 3, none⟩) zXC).trans xc3), ((Y2.out.cell (p := ⟨b, p + 4, none⟩) zXC).trans xc4), ((Y2.out.cell (p := ⟨b, p + 5, none⟩) zXC).trans xc5), ((Y2.out.cell (p := ⟨b, p + 6, none⟩) zXC).trans xc6), ((Y2.out.cell (p := ⟨b, p + 7, none⟩) zXC).trans xc7), ((Y2.out.cell (p := ⟨b, p + 8, none⟩) zXC).trans xc8), ((Y2.out.cell (p := ⟨b, p + 9, none⟩) zXC).trans xc9), ((Y2.out.cell (p := ⟨b, p + 10, none⟩) zXC).trans xc10), ((Y2.out.cell (p := ⟨b, p + 11, none⟩) zXC).trans xc11), ((Y2.out.cell (p := ⟨b, p + 12, none⟩) zXC).trans xc12)⟩ ?_
                clear hK K
                try simp only [Act.put, List.setIfInBounds_toArray, List.set_cons_zero, List.set_cons_succ]
                refine plan_calls (by simp only [List.getElem?_toArray, List.getElem?_cons_zero, List.getElem?_cons_succ]; exact rfl) (by as_aux_lemma => rfl) (fun K hK => ?_)
                go_simp
                refine (HF.out _).mono ?_
                rintro e Y3w ⟨rfl, hb1⟩
                have Y3 := Lib.hid (keepS (W0 := W0) Y2.out hb1)
                clear hb1
                refine hK.out _ _ ⟨((Y3.out.cell (p := ⟨w.heap.size, 0, none⟩) zA1).trans A1_0), ((Y3.out.cell (p := ⟨w.heap.size, 1, none⟩) zA1).trans A1_1), ((Y3.out.cell (p := ⟨w.heap.size, 2, none⟩) zA1).trans A1_2), ((Y3.out.cell (p := ⟨w.heap.size, 3, none⟩) zA1).trans A1_3), ((Y3.out.cell (p := ⟨w.heap.size, 4, none⟩) zA1).trans A1_4), ((Y3.out.cell (p := ⟨b, p, none⟩) zXC).trans xc0), ((Y3.out.cell (p := ⟨b, p + 1, none⟩) zXC).trans xc1), ((Y3.out.cell (p := ⟨b, p + 2, none⟩) zXC).trans xc2), ((Y3.out.cell (p := ⟨b, p + 3, none⟩) zXC).trans xc3), ((Y3.out.cell (p := ⟨b, p + 4, none⟩) zXC).trans xc4), ((Y3.out.cell (p := ⟨b, p + 5, none⟩) zXC).trans xc5), ((Y3.out.cell (p := ⟨b, p + 6, none⟩) zXC).trans xc6), ((Y3.out.cell (p := ⟨b, p + 7, none⟩) zXC).trans xc7), ((Y3.out.cell (p := ⟨b, p + 8, none⟩) zXC).trans xc8), ((Y3.out.cell (p := ⟨b, p + 9, none⟩) zXC).trans xc9), ((Y3.out.cell (p := ⟨b, p + 10, none⟩) zXC).trans xc10), ((Y3.out.cell (p := ⟨b, p + 11, none⟩) zXC).trans xc11), ((Y3.out.cell (p := ⟨b, p + 12, none⟩) zXC).trans xc12)⟩ ?_
                clear hK K
                try simp only [Act.put, List.setIfInBounds_toArray, List.set_cons_zero, List.set_cons_succ]
                as_aux_lemma =>
                 refine plan_yes (v := ?v13_1) (by simp only [List.getElem?_toArray, List.getElem?_cons_zero, List.getElem?_cons_succ]; exact rfl) (Or.inl ⟨by as_aux_lemma => rfl, ?hy13_1⟩) ?rest13_1
                 case hy13_1 => (intro w2 hSw; (try dsimp only at hSw); obtain ⟨s0, s1, s2, s3, s4, s5, s6, s7, s8, s9, s10, s11, s12, s13, s14, s15, s16, s17⟩ := hSw; go_simp; try with_reducible rfl)
                 try simp only [Act.put, List.setIfInBounds_toArray, List.set_cons_zero, List.set_cons_succ]
                 refine plan_done (NoPanic.normal ?_)
                 have B0 := Y3.out
                 have BW := Lib.hid (HB0.out.trans (B0.mono zW0))
                 clear A1_0 A1_1 A1_2 A1_3 A1_4
                 replace A1 := Lib.hid (row_call B0 A1.out)
                 have B21 := BW
                 clear BW B0 zA1 Y0 Y1 Y2 Y3
                 obtain ⟨V21, rfl⟩ : ∃ V, V = Y3w := ⟨_, rfl⟩
                 obtain ⟨A1_0, A1_1, A1_2, A1_3, A1_4⟩ := qw5 A1
                 have zA1 := lt_of_heap A1.out
                 try go_simp
                 go_wp2
                 go_roundw
                 case rel => exact ⟨k + 1, by omega, by go_num, by rw [hnext.out], B21, A1⟩
                 case measure => simp [intOf]; omega
            · obtain rfl : k = ls.length := by omega
              have E2 : Hid (R = lnsErr E1 (ls.take ls.length)) := Lib.hid (by rw [E.out, List.take_length])
              clear E
              generalize lnsErr E1 (ls.take ls.length) = eK at *
              have A1_4 : V20.cell? ⟨w.heap.size, 4, none⟩ = some (.slice A ls.length c) := crx A1
              go_wp2
              go_ret
              exact ⟨by rw [E2.out]; rfl, B20.out⟩
        · have hd2 : dst = false := by simpa using hd
          have e := Lib.hid (hE1f.out hd2)
          subst hd2
          have A2 := A1
          have B2 := B1
          clear A1_0 A1_1 A1_3 zA1 A1 B1 HN HB hE1f hE1t
          rw [← e.out]
          go_wp2
          go_loopw [3, 4] (fun e i wr => ∃ k : Nat, k ≤ ls.length ∧ i = .int .i64 (k : Int) ∧ e = .int .i64 (lnsErr E1 (ls.take k)) ∧ Hid (Below w.heap.size w wr) ∧ Hid (wr.heap[w.heap.size]? = some (.cells #[.string (bs nam), .int .i64 off, .bool false, .string (bs abb), .slice A ls.length c] 30 (0, 0)))) (fun _ i _ => ls.length - (intOf i).toNat)
          case atStart => exact ⟨0, by omega, rfl, rfl, B2, A2⟩
          case round =>
            obtain ⟨k, hk, rfl, rfl, B20, A1⟩ := hrel
            obtain ⟨V20, rfl⟩ : ∃ V, V = wr := ⟨_, rfl⟩
            clear A2 B2
            by_cases hlt : k < ls.length
            · obtain ⟨b, o, rfl, hbl, hc⟩ := (hH.out.below B20.out (Nat.le_refl _)).lin hlt
              obtain ⟨c0, c1, c2, c3, c4, c5, c6, c7, c8, c9, c10, c11, c12⟩ := hc k hlt
              have HM := Lib.hid (rMayLine_any ls[k])
              have HT2 := Lib.hid (rMayTri_any ls[k].off ls[k].dst ls[k].abb (hl ls[k] (by simp)))
              have hnext := Lib.hid (lnsErr_take hlt E1)
              have hkT : (k : Int) < (ls.length : Int) := by omega
              clear hc
              obtain ⟨p, hp⟩ : ∃ p, o + k * 13 = p := ⟨_, rfl⟩
              rw [hp] at c0 c1 c2 c3 c4 c5 c6 c7 c8 c9 c10 c11 c12
              generalize lineErr ls[k] = eL at *
              generalize triE ls[k].off ls[k].abb = eT at *
              generalize lnsErr E1 (ls.take k) = eK at *
              generalize hlk : ls[k] = l at *
              obtain ⟨lk, lsec, lf, lt, lm, ldk, ldn, ldw, lti, lrd, lof, lds, lab⟩ := l
              simp only at c0 c1 c2 c3 c4 c5 c6 c7 c8 c9 c10 c11 c12 HM HT2
              replace hlk := Lib.hid hlk
              
              obtain ⟨A1_0, A1_1, A1_2, A1_3, A1_4⟩ := qw5 A1
              have zA1 := lt_of_heap A1.out
              go_wp2_with fail
              have HF := Lib.hid (fun w => rFirst3_two eK eL eT 3 w)
              obtain ⟨W0, hW0⟩ : ∃ W0, W0 = V20 := ⟨_, rfl⟩
              replace A1 := Lib.hid (row_by hW0 A1.out)
              clear A1_0 A1_1 A1_2 A1_3 A1_4 zA1
              obtain ⟨A1_0, A1_1, A1_2, A1_3, A1_4⟩ := qw5 A1
              have zA1 := lt_of_heap A1.out
              have xc0 : W0.cell? ⟨b, p, none⟩ = some (.int .i64 lk) := by (rw [hW0]; first | assumption | (simp; assumption))
              have xc1 : W0.cell? ⟨b, p + 1, none⟩ = some (.int .i64 lsec) := by (rw [hW0]; first | assumption | (simp; assumption))
              have xc2 : W0.cell? ⟨b, p + 2, none⟩ = some (.int .i64 lf) := by (rw [hW0]; first | assumption | (simp; assumption))
              have xc3 : W0.cell? ⟨b, p + 3, none⟩ = some (.int .i64 lt) := by (rw [hW0]; first | assumption | (simp; assumption))
              have xc4 : W0.cell? ⟨b, p + 4, none⟩ = some (.int .i64 lm) := by (rw [hW0]; first | assumption | (simp; assumption))
              have xc5 : W0.cell? ⟨b, p + 5, none⟩ = some (.int .i64 ldk) := by (rw [hW0]; first | assumption | (simp; assumption))
              have xc6 : W0.cell? ⟨b, p + 6, none⟩ = some (.int .i64 ldn) := by (rw [hW0]; first | assumption | (simp; assumption))
              have xc7 : W0.cell? ⟨b, p + 7, none⟩ = some (.int .i64 ldw) := by (rw [hW0]; first | assumption | (simp; assumption))
              have xc8 : W0.cell? ⟨b, p + 8, none⟩ = some (.int .i64 lti) := by (rw [hW0]; first | assumption | (simp; assumption))
              have xc9 : W0.cell? ⟨b, p + 9, none⟩ = some (.int .i64 lrd) := by (rw [hW0]; first | assumption | (simp; assumption))
              have xc10 : W0.cell? ⟨b, p + 10, none⟩ = some (.int .i64 lof) := by (rw [hW0]; first | assumption | (simp; assumption))
              have xc11 : W0.cell? ⟨b, p + 11, none⟩ = some (.bool lds) := by (rw [hW0]; first | assumption | (simp; assumption))
              have xc12 : W0.cell? ⟨b, p + 12, none⟩ = some (.string (bs lab)) := by (rw [hW0]; first | assumption | (simp; assumption))
              have HB0 := Lib.hid (below_by hW0 (B20.out))
              have zXC : b < W0.heap.size := by first | (have := HB0.out.size; omega) | (rw [hW0]; omega) | (rw [hW0]; simp; omega)
              have zW0 := HB0.out.size
              have HW0 := Lib.hid hW0
              clear hW0
              try go_simp
              rw [← HW0.out]
              refine region_plan (S := fun w2 => w2.cell? ⟨w.heap.size, 0, none⟩ = some (.string (bs nam)) ∧ w2.cell? ⟨w.heap.size, 1, none⟩ = some (.int .i64 off) ∧ w2.cell? ⟨w.heap.size, 2, none⟩ = some (.bool false) ∧ w2.cell? ⟨w.heap.size, 3, none⟩ = some (.string (bs abb)) ∧ w2.cell? ⟨w.heap.size, 4, none⟩ = some (.slice (some ⟨b, o, none⟩) ls.length c) ∧ w2.cell? ⟨b, p, none⟩ = some (.int .i64 lk) ∧ w2.cell? ⟨b, p + 1, none⟩ = some (.int .i64 lsec) ∧ w2.cell? ⟨b, p + 2, none⟩ = some (.int .i64 lf) ∧ w2.cell? ⟨b, p + 3, none⟩ = some (.int .i64 lt) ∧ w2.cell? ⟨b, p + 4, none⟩ = some (.int .i64 lm) ∧ w2.cell? ⟨b, p + 5, none⟩ = some (.int .i64 ldk) ∧ w2.cell? ⟨b, p + 6, none⟩ = some (.int .i64 ldn) ∧ w2.cell? ⟨b, p + 7, none⟩ = some (.int .i64 ldw) ∧ w2.cell? ⟨b, p + 8, none⟩ = some (.int .i64 lti) ∧ w2.cell? ⟨b, p + 9, none⟩ = some (.int .i64 lrd) ∧ w2.cell? ⟨b, p + 10, none⟩ = some (.int .i64 lof) ∧ w2.cell? ⟨b, p + 11, none⟩ = some (.bool lds) ∧ w2.cell? ⟨b, p + 12, none⟩ = some (.string (bs lab))) [(0, true), (1, true), (2, true), (3, true), (4, true), (5, true), (7, true), (8, true), (9, true), (10, true), (11, true), (12, true), (6, false), (13, false), (14, false), (15, false), (16, true)] (by as_aux_lemma => kernel_rfl) (by as_aux_lemma => kernel_rfl) (by as_aux_lemma => kernel_rfl) (by as_aux_lemma => kernel_rfl) ⟨(by rw [World.cell?_drew]; exact A1_0), (by rw [World.cell?_drew]; exact A1_1), (by rw [World.cell?_drew]; exact A1_2), (by rw [World.cell?_drew]; exact A1_3), (by rw [World.cell?_drew]; exact A1_4), (by rw [World.cell?_drew]; exact xc0), (by rw [World.cell?_drew]; exact xc1), (by rw [World.cell?_drew]; exact xc2), (by rw [World.cell?_drew]; exact xc3), (by rw [World.cell?_drew]; exact xc4), (by rw [World.cell?_drew]; exact xc5), (by rw [World.cell?_drew]; exact xc6), (by rw [World.cell?_drew]; exact xc7), (by rw [World.cell?_drew]; exact xc8), (by rw [World.cell?_drew]; exact xc9), (by rw [World.cell?_drew]; exact xc10), (by rw [World.cell?_drew]; exact xc11), (by rw [World.cell?_drew]; exact xc12)⟩ ?_
              have Y0 := Lib.hid (Below.refl W0.heap.size W0).drew
              refine plan_yes (v := ?v1_2) (by simp only [List.getElem?_toArray, List.getElem?_cons_zero, List.getElem?_cons_succ]; exact rfl) (Or.inl ⟨by as_aux_lemma => rfl, ?hy1_2⟩) ?rest1_2
              case hy1_2 => (intro w2 hSw; (try dsimp only at hSw); obtain ⟨s0, s1, s2, s3, s4, s5, s6, s7, s8, s9, s10, s11, s12, s13, s14, s15, s16, s17⟩ := hSw; go_simp; try with_reducible rfl)
              try simp only [Act.put, List.setIfInBounds_toArray, List.set_cons_zero, List.set_cons_succ]
              refine plan_yes (v := ?v2_2) (by simp only [List.getElem?_toArray, List.getElem?_cons_zero, List.getElem?_cons_succ]; exact rfl) (Or.inl ⟨by as_aux_lemma => rfl, ?hy2_2⟩) ?rest2_2
              case hy2_2 => (intro w2 hSw; (try dsimp only at hSw); obtain ⟨s0, s1, s2, s3, s4, s5, s6, s7, s8, s9, s10, s11, s12, s13, s14, s15, s16, s17⟩ := hSw; go_simp; try with_reducible rfl)
              try simp only [Act.put, List.setIfInBounds_toArray, List.set_cons_zero, List.set_cons_succ]
              refine plan_yes (v := ?v3_2) (by simp only [List.getElem?_toArray, List.getElem?_cons_zero, List.getElem?_cons_succ]; exact rfl) (Or.inl ⟨by as_aux_lemma => rfl, ?hy3_2⟩) ?rest3_2
              case hy3_2 => (intro w2 hSw; (try dsimp only at hSw); obtain ⟨s0, s1, s2, s3, s4, s5, s6, s7, s8, s9, s10, s11, s12, s13, s14, s15, s16, s17⟩ := hSw; go_simp; try with_reducible rfl)
              try simp only [Act.put, List.setIfInBounds_toArray, List.set_cons_zero, List.set_cons_succ]
              refine plan_yes (v := ?v4_2) (by simp only [List.getElem?_toArray, List.getElem?_cons_zero, List.getElem?_cons_succ]; exact rfl) (Or.inl ⟨by as_aux_lemma => rfl, ?hy4_2⟩) ?rest4_2
              case hy4_2 => (intro w2 hSw; (try dsimp only at hSw); obtain ⟨s0, s1, s2, s3, s4, s5, s6, s7, s8, s9, s10, s11, s12, s13, s14, s15, s16, s17⟩ := hSw; go_simp; try with_reducible rfl)
              try simp only [Act.put, List.setIfInBounds_toArray, List.set_cons_zero, List.set_cons_succ]
              refine plan_yes (v := ?v5_2) (by simp only [List.getElem?_toArray, List.getElem?_cons_zero, List.getElem?_cons_succ]; exact rfl) (Or.inl ⟨by as_aux_lemma => rfl, ?hy5_2⟩) ?rest5_2
              case hy5_2 => (intro w2 hSw; (try dsimp only at hSw); obtain ⟨s0, s1, s2, s3, s4, s5, s6, s7, s8, s9, s10, s11, s12, s13, s14, s15, s16, s17⟩ := hSw; go_simp; try with_reducible rfl)
              try simp only [Act.put, List.setIfInBounds_toArray, List.set_cons_zero, List.set_cons_succ]
              refine plan_yes (v := ?v6_2) (by simp only [List.getElem?_toArray, List.getElem?_cons_zero, List.getElem?_cons_succ]; exact rfl) (Or.inl ⟨by as_aux_lemma => rfl, ?hy6_2⟩) ?rest6_2
              case hy6_2 => (intro w2 hSw; (try dsimp only at hSw); obtain ⟨s0, s1, s2, s3, s4, s5, s6, s7, s8, s9, s10, s11, s12, s13, s14, s15, s16, s17⟩ := hSw; go_simp; try with_reducible rfl)
              try simp only [Act.put, List.setIfInBounds_toArray, List.set_cons_zero, List.set_cons_succ]
              refine plan_yes (v := ?v7_2) (by simp only [List.getElem?_toArray, List.getElem?_cons_zero, List.getElem?_cons_succ]; exact rfl) (Or.inl ⟨by as_aux_lemma => rfl, ?hy7_2⟩) ?rest7_2
              case hy7_2 => (intro w2 hSw; (try dsimp only at hSw); obtain ⟨s0, s1, s2, s3, s4, s5, s6, s7, s8, s9, s10, s11, s12, s13, s14, s15, s16, s17⟩ := hSw; go_simp; try with_reducible rfl)
              try simp only [Act.put, List.setIfInBounds_toArray, List.set_cons_zero, List.set_cons_succ]
              refine plan_yes (v := ?v8_2) (by simp only [List.getElem?_toArray, List.getElem?_cons_zero, List.getElem?_cons_succ]; exact rfl) (Or.inl ⟨by as_aux_lemma => rfl, ?hy8_2⟩) ?rest8_2
              case hy8_2 => (intro w2 hSw; (try dsimp only at hSw); obtain ⟨s0, s1, s2, s3, s4, s5, s6, s7, s8, s9, s10, s11, s12, s13, s14, s15, s16, s17⟩ := hSw; go_simp; try with_reducible rfl)
              try simp only [Act.put, List.setIfInBounds_toArray, List.set_cons_zero, List.set_cons_succ]
              refine plan_yes (v := ?v9_2) (by simp only [List.getElem?_toArray, List.getElem?_cons_zero, List.getElem?_cons_succ]; exact rfl) (Or.inl ⟨by as_aux_lemma => rfl, ?hy9_2⟩) ?rest9_2
              case hy9_2 => (intro w2 hSw; (try dsimp only at hSw); obtain ⟨s0, s1, s2, s3, s4, s5, s6, s7, s8, s9, s10, s11, s12, s13, s14, s15, s16, s17⟩ := hSw; go_simp; try with_reducible rfl)
              try simp only [Act.put, List.setIfInBounds_toArray, List.set_cons_zero, List.set_cons_succ]
              refine plan_yes (v := ?v10_2) (by simp only [List.getElem?_toArray, List.getElem?_cons_zero, List.getElem?_cons_succ]; exact rfl) (Or.inl ⟨by as_aux_lemma => rfl, ?hy10_2⟩) ?rest10_2
              case hy10_2 => (intro w2 hSw; (try dsimp only at hSw); obtain ⟨s0, s1, s2, s3, s4, s5, s6, s7, s8, s9, s10, s11, s12, s13, s14, s15, s16, s17⟩ := hSw; go_simp; try with_reducible rfl)
              try simp only [Act.put, List.setIfInBounds_toArray, List.set_cons_zero, List.set_cons_succ]
              refine plan_yes (v := ?v11_2) (by simp only [List.getElem?_toArray, List.getElem?_cons_zero, List.getElem?_cons_succ]; exact rfl) (Or.inl ⟨by as_aux_lemma => rfl, ?hy11_2⟩) ?rest11_2
              case hy11_2 => (intro w2 hSw; (try dsimp only at hSw); obtain ⟨s0, s1, s2, s3, s4, s5, s6, s7, s8, s9, s10, s11, s12, s13, s14, s15, s16, s17⟩ := hSw; go_simp; try with_reducible rfl)
              try simp only [Act.put, List.setIfInBounds_toArray, List.set_cons_zero, List.set_cons_succ]
              refine plan_yes (v := ?v12_2) (by simp only [List.getElem?_toArray, List.getElem?_cons_zero, List.getElem?_cons_succ]; exact rfl) (Or.inl ⟨by as_aux_lemma => rfl, ?hy12_2⟩) ?rest12_2
              case hy12_2 => (intro w2 hSw; (try dsimp only at hSw); obtain ⟨s0, s1, s2, s3, s4, s5, s6, s7, s8, s9, s10, s11, s12, s13, s14, s15, s16, s17⟩ := hSw; go_simp; try with_reducible rfl)
              try simp only [Act.put, List.setIfInBounds_toArray, List.set_cons_zero, List.set_cons_succ]
              refine plan_calls (by simp only [List.getElem?_toArray, List.getElem?_cons_zero, List.getElem?_cons_succ]; exact rfl) (by as_aux_lemma => rfl) (fun K hK => ?_)
              go_simp
              refine (HM.out _).mono ?_
              rintro e Y1w ⟨rfl, hb1⟩
              have Y1 := Lib.hid (keepS (W0 := W0) Y0.out hb1)
              clear hb1
              refine hK.out _ _ ⟨((Y1.out.cell (p := ⟨w.heap.size, 0, none⟩) zA1).trans A1_0), ((Y1.out.cell (p := ⟨w.heap.size, 1, none⟩) zA1).trans A1_1), ((Y1.out.cell (p := ⟨w.heap.size, 2, none⟩) zA1).trans A1_2), ((Y1.out.cell (p := ⟨w.heap.size, 3, none⟩) zA1).trans A1_3), ((Y1.out.cell (p := ⟨w.heap.size, 4, none⟩) zA1).trans A1_4), ((Y1.out.cell (p := ⟨b, p, none⟩) zXC).trans xc0), ((Y1.out.cell (p := ⟨b, p + 1, none⟩) zXC).trans xc1), ((Y1.out.cell (p := ⟨b, p + 2, none⟩) zXC).trans xc2), ((Y1.out.cell (p := ⟨b, p + 3, none⟩) zXC).trans xc3), ((Y1.out.cell (p := ⟨b, p + 4, none⟩) zXC).trans xc4), ((Y1.out.cell (p := ⟨b, p + 5, none⟩) zXC).trans xc5), ((Y1.out.cell (p := ⟨b, p + 6, none⟩) zXC).trans xc6), ((Y1.out.cell (p := ⟨b, p + 7, none⟩) zXC).trans xc7), ((Y1.out.cell (p := ⟨b, p + 8, none⟩) zXC).trans xc8), ((Y1.out.cell (p := ⟨b, p + 9, none⟩) zXC).trans xc9), ((Y1.out.cell (p := ⟨b, p + 10, none⟩) zXC).trans xc10), ((Y1.out.cell (p := ⟨b, p + 11, none⟩) zXC).trans xc11), ((Y1.out.cell (p := ⟨b, p + 12, none⟩) zXC).trans xc12)⟩ ?_
              clear hK K
              try simp only [Act.put, List.setIfInBounds_toArray, List.set_cons_zero, List.set_cons_succ]
              as_aux_lemma =>
               refine plan_calls (by simp only [List.getElem?_toArray, List.getElem?_cons_zero, List.getElem?_cons_succ]; exact rfl) (by as_aux_lemma => rfl) (fun K hK => ?_)
               go_simp
               refine (HT2.out _).mono ?_
               rintro e Y2w ⟨rfl, hb1⟩
               have Y2 := Lib.hid (keepS (W0 := W0) Y1.out hb1)
               clear hb1
               refine hK.out _ _ ⟨((Y2.out.cell (p := ⟨w.heap.size, 0, none⟩) zA1).trans A1_0), ((Y2.out.cell (p := ⟨w.heap.size, 1, none⟩) zA1).trans A1_1), ((Y2.out.cell (p := ⟨w.heap.size, 2, none⟩) zA1).trans A1_2), ((Y2.out.cell (p := ⟨w.heap.size, 3, none⟩) zA1).trans A1_3), ((Y2.out.cell (p := ⟨w.heap.size, 4, none⟩) zA1).trans A1_4), ((Y2.out.cell (p := ⟨b, p, none⟩) zXC).trans xc0), ((Y2.out.cell (p := ⟨b, p + 1, none⟩) zXC).trans xc1), ((Y2.out.cell (p := ⟨b, p + 2, none⟩) zXC).trans xc2), ((Y2.out.cell (p := ⟨b, p + 3, none⟩) zXC).trans xc3), ((Y2.out.cell (p := ⟨b, p + 4, none⟩) zXC).trans xc4), ((Y2.out.cell (p := ⟨b, p + 5, none⟩) zXC).trans xc5), ((Y2.out.cell (p := ⟨b, p + 6, none⟩) zXC).trans xc6), ((Y2.out.cell (p := ⟨b, p + 7, none⟩) zXC).trans xc7), ((Y2.out.cell (p := ⟨b, p + 8, none⟩) zXC).trans xc8), ((Y2.out.cell (p := ⟨b, p + 9, none⟩) zXC).trans xc9), ((Y2.out.cell (p := ⟨b, p + 10, none⟩) zXC).trans xc10), ((Y2.out.cell (p := ⟨b, p + 11, none⟩) zXC).trans xc11), ((Y2.out.cell (p := ⟨b, p + 12, none⟩) zXC).trans xc12)⟩ ?_
               clear hK K
               try simp only [Act.put, List.setIfInBounds_toArray, List.set_cons_zero, List.set_cons_succ]
               as_aux_lemma =>
                refine plan_calls (by simp only [List.getElem?_toArray, List.getElem?_cons_zero, List.getElem?_cons_succ]; exact rfl) (by as_aux_lemma => rfl) (fun K hK => ?_)
                go_simp
                replace Y2 := Lib.hid (keepA (W0 := W0) Y2.out (Obj.cells #[Value.int .i64 eK, Value.int .i64 eL, Value.int .i64 eT] 3))
                refine hK.out _ _ ⟨((Y2.out.cell (p := ⟨w.heap.size, 0, none⟩) zA1).trans A1_0), ((Y2.out.cell (p := ⟨w.heap.size, 1, none⟩) zA1).trans A1_1), ((Y2.out.cell (p := ⟨w.heap.size, 2, none⟩) zA1).trans A1_2), ((Y2.out.cell (p := ⟨w.heap.size, 3, none⟩) zA1).trans A1_3), ((Y2.out.cell (p := ⟨w.heap.size, 4, none⟩) zA1).trans A1_4), ((Y2.out.cell (p := ⟨b, p, none⟩) zXC).trans xc0), ((Y2.out.cell (p := ⟨b, p + 1, none⟩) zXC).trans xc1), ((Y2.out.cell (p := ⟨b, p + 2, none⟩) zXC).trans xc2), ((Y2.out.cell (p := ⟨b, p + 3, none⟩) zXC).trans xc3), ((Y2.out.cell (p := ⟨b, p + 4, none⟩) zXC).trans xc4), ((Y2.out.cell (p := ⟨b, p + 5, none⟩) zXC).trans xc5), ((Y2.out.cell (p := ⟨b, p + 6, none⟩) zXC).trans xc6), ((Y2.out.cell (p := ⟨b, p + 7, none⟩) zXC).trans xc7), ((Y2.out.cell (p := ⟨b, p + 8, none⟩) zXC).trans xc8), ((Y2.out.cell (p := ⟨b, p + 9, none⟩) zXC).trans xc9), ((Y2.out.cell (p := ⟨b, p + 10, none⟩) zXC).trans xc10), ((Y2.out.cell (p := ⟨b, p + 11, none⟩) zXC).trans xc11), ((Y2.out.cell (p := ⟨b, p + 12, none⟩) zXC).trans xc12)⟩ ?_
                clear hK K
                try simp only [Act.put, List.setIfInBounds_toArray, List.set_cons_zero, List.set_cons_succ]
                refine plan_calls (by simp only [List.getElem?_toArray, List.getElem?_cons_zero, List.getElem?_cons_succ]; exact rfl) (by as_aux_lemma => rfl) (fun K hK => ?_)
                go_simp
                refine (HF.out _).mono ?_
                rintro e Y3w ⟨rfl, hb1⟩
                have Y3 := Lib.hid (keepS (W0 := W0) Y2.out hb1)
                clear hb1
                refine hK.out _ _ ⟨((Y3.out.cell (p := ⟨w.heap.size, 0, none⟩) zA1).trans A1_0), ((Y3.out.cell (p := ⟨w.heap.size, 1, none⟩) zA1).trans A1_1), ((Y3.out.cell (p := ⟨w.heap.size, 2, none⟩) zA1).trans A1_2), ((Y3.out.cell (p := ⟨w.heap.size, 3, none⟩) zA1).trans A1_3), ((Y3.out.cell (p := ⟨w.heap.size, 4, none⟩) zA1).trans A1_4), ((Y3.out.cell (p := ⟨b, p, none⟩) zXC).trans xc0), ((Y3.out.cell (p := ⟨b, p + 1, none⟩) zXC).trans xc1), ((Y3.out.cell (p := ⟨b, p + 2, none⟩) zXC).trans xc2), ((Y3.out.cell (p := ⟨b, p + 3, none⟩) zXC).trans xc3), ((Y3.out.cell (p := ⟨b, p + 4, none⟩) zXC).trans xc4), ((Y3.out.cell (p := ⟨b, p + 5, none⟩) zXC).trans xc5), ((Y3.out.cell (p := ⟨b, p + 6, none⟩) zXC).trans xc6), ((Y3.out.cell (p := ⟨b, p + 7, none⟩) zXC).trans xc7), ((Y3.out.cell (p := ⟨b, p + 8, none⟩) zXC).trans xc8), ((Y3.out.cell (p := ⟨b, p + 9, none⟩) zXC).trans xc9), ((Y3.out.cell (p := ⟨b, p + 10, none⟩) zXC).trans xc10), ((Y3.out.cell (p := ⟨b, p + 11, none⟩) zXC).trans xc11), ((Y3.out.cell (p := ⟨b, p + 12, none⟩) zXC).trans xc12)⟩ ?_
                clear hK K
                try simp only [Act.put, List.setIfInBounds_toArray, List.set_cons_zero, List.set_cons_succ]
                as_aux_lemma =>
                 refine plan_yes (v := ?v13_2) (by simp only [List.getElem?_toArray, List.getElem?_cons_zero, List.getElem?_cons_succ]; exact rfl) (Or.inl ⟨by as_aux_lemma => rfl, ?hy13_2⟩) ?rest13_2
                 case hy13_2 => (intro w2 hSw; (try dsimp only at hSw); obtain ⟨s0, s1, s2, s3, s4, s5, s6, s7, s8, s9, s10, s11, s12, s13, s14, s15, s16, s17⟩ := hSw; go_simp; try with_reducible rfl)
                 try simp only [Act.put, List.setIfInBounds_toArray, List.set_cons_zero, List.set_cons_succ]
                 refine plan_done (NoPanic.normal ?_)
                 have B0 := Y3.out
                 have BW := Lib.hid (HB0.out.trans (B0.mono zW0))
                 clear A1_0 A1_1 A1_2 A1_3 A1_4
                 replace A1 := Lib.hid (row_call B0 A1.out)
                 have B21 := BW
                 clear BW B0 zA1 Y0 Y1 Y2 Y3
                 obtain ⟨V21, rfl⟩ : ∃ V, V = Y3w := ⟨_, rfl⟩
                 obtain ⟨A1_0, A1_1, A1_2, A1_3, A1_4⟩ := qw5 A1
                 have zA1 := lt_of_heap A1.out
                 try go_simp
                 go_wp2
                 go_roundw
                 case rel => exact ⟨k + 1, by omega, by go_num, by rw [hnext.out], B21, A1⟩
                 case measure => simp [intOf]; omega
            · obtain rfl : k = ls.length := by omega
              have E2 : Hid (R = lnsErr E1 (ls.take ls.length)) := Lib.hid (by rw [E.out, List.take_length])
              clear E
              generalize lnsErr E1 (ls.take ls.length) = eK at *
              have A1_4 : V20.cell? ⟨w.heap.size, 4, none⟩ = some (.slice A ls.length c) := crx A1
              go_wp2
              go_ret
              exact ⟨by rw [E2.out]; rfl, B20.out⟩
end Go.Proofs.YtafecnlaodgmkaaGreatDoor
namespace Go.Proofs.YtafecnlaodgmkaaGreatDoor
set_option linter.unusedVariables false
set_option linter.unusedSimpArgs false
open Go.ChangeShapes Go.WideShapes Go.ChangeAt Go.RowKit
structure LnW (w V : World) (zb lb : Nat) (cs : Array Value) : Prop where
  z : V.heap[zb]? = some (.cells #[.int .i64 0, .int .i64 0, .int .i64 0, .int .i64 0, .int .i64 0, .int .i64 0, .int .i64 0, .int .i64 0, .int .i64 0, .int .i64 0, .int .i64 0, .bool false, .string ⟨#[]⟩] 58 (0, 0))
  l : V.heap[lb]? = some (.cells cs 58 (0, 0))
  bel : Below w.heap.size w V
  hz : w.heap.size ≤ zb
  hl : w.heap.size ≤ lb
  ne : zb ≠ lb
section
variable {w V V' : World} {zb lb : Nat} {cs : Array Value}
theorem LnW.call (h : LnW w V zb lb cs) (hb : Below V.heap.size V V') : LnW w V' zb lb cs :=
  ⟨(hb.block zb (Array.getElem?_eq_some_iff.1 h.z).1).trans h.z, (hb.block lb (Array.getElem?_eq_some_iff.1 h.l).1).trans h.l, h.bel.trans (hb.mono h.bel.size), h.hz, h.hl, h.ne⟩
theorem LnW.drew (h : LnW w V zb lb cs) : LnW w V.drew zb lb cs := ⟨h.z, h.l, h.bel.drew, h.hz, h.hl, h.ne⟩
theorem LnW.set (h : LnW w V zb lb cs) (j : Nat) (v : Value) {cs' : Array Value} (e : cs.setIfInBounds j v = cs') : LnW w (V.setCell ⟨lb, j, none⟩ v) zb lb cs' := by
  subst e
  exact ⟨row_other1 h.ne h.z j v, row_set1 h.l j v, h.bel.setCell (by exact h.hl) _, h.hz, h.hl, h.ne⟩
theorem LnW.cell (h : LnW w V zb lb cs) (j : Nat) {u : Value} (hj : cs[j]? = some u) : V.cell? ⟨lb, j, none⟩ = some u := by rw [Lib.cell_of_heap h.l]; exact hj
theorem LnW.old (h : LnW w V zb lb cs) {b k : Nat} {u : Value} (hb : b < w.heap.size) (hk : w.cell? ⟨b, k, none⟩ = some u) : V.cell? ⟨b, k, none⟩ = some u := (h.bel.cell (p := ⟨b, k, none⟩) hb).trans hk
end
end Go.Proofs.YtafecnlaodgmkaaGreatDoor
namespace Go.Proofs.YtafecnlaodgmkaaGreatDoor
set_option linter.unusedVariables false
set_option linter.unusedSimpArgs false
open Go.ChangeShapes Go.WideShapes Go.ChangeAt Go.RowKit
theorem infoLin : (Tryz.prog.info? 58).map (fun i => (i.zero, i.size, i.bytes)) = some (some (.agg #[.int .i64 0, .int .i64 0, .int .i64 0, .int .i64 0, .int .i64 0, .int .i64 0, .int .i64 0, .int .i64 0, .int .i64 0, .int .i64 0, .int .i64 0, .bool false, .string ⟨#[]⟩]), 13, 112) := by kernel_rfl
structure SrH (B : Nat) (w0 w : World) (zb : Nat) (z : Src) (v : Value) : Prop where
  row : w.heap[zb]? = some (.cells #[.string (bs z.nam), .int .i64 z.off, .bool z.dst, .string (bs z.abb), v] 30 (0, 0))
  own : w.ownsRow B 58 13 v z.lns.length (linVs z.lns)
  bz : B ≤ zb
  bel : Below B w0 w
  sz : B ≤ w.heap.size
section
variable {B : Nat} {w0 w w' : World} {zb : Nat} {z : Src} {v : Value}
theorem SrH.lt (h : SrH B w0 w zb z v) : zb < w.heap.size := (Array.getElem?_eq_some_iff.1 h.row).1
theorem SrH.vz (h : SrH B w0 w zb z v) : v.ownBlock ≠ some zb := own_kind h.own h.row (fun c fz e => by injection e with _ e2; exact absurd e2 (by decide))
theorem SrH.call (h : SrH B w0 w zb z v) (hb : Below w.heap.size w w') : SrH B w0 w' zb z v :=
  ⟨(hb.block zb h.lt).trans h.row, own_up h.own hb, h.bz, h.bel.trans (hb.mono h.sz), Nat.le_trans h.sz hb.size⟩
theorem SrH.drew (h : SrH B w0 w zb z v) : SrH B w0 w.drew zb z v := ⟨h.row, h.own, h.bz, h.bel.drew, h.sz⟩
theorem SrH.alloc (h : SrH B w0 w zb z v) (o : Obj) : SrH B w0 (w.alloc o) zb z v := h.call ((Below.refl _ w).alloc (Nat.le_refl _) _)
theorem SrH.set (h : SrH B w0 w zb z v) (j : Nat) (a : Value) (z' : Src) (hr : (#[.string (bs z.nam), .int .i64 z.off, .bool z.dst, .string (bs z.abb), v] : Array Value).setIfInBounds j a = #[.string (bs z'.nam), .int .i64 z'.off, .bool z'.dst, .string (bs z'.abb), v]) (hl : z'.lns = z.lns) :
    SrH B w0 (w.setCell ⟨zb, j, none⟩ a) zb z' v := by
  refine ⟨by rw [row_set1 h.row, hr], ?_, h.bz, h.bel.setCell (by exact h.bz) _, ?_⟩
  · rw [hl]; exact own_stay h.own (fun g hg => row_other1 (fun e => h.vz (by rw [hg, e])) rfl j a)
  · have e := h.sz
    simpa [World.setCell] using e
theorem SrH.app (h : SrH B w0 w zb z v) {w1 : World} {x : Obj} {g cap : Nat} (l : Lin) (hown : w1.ownsRow B 58 13 (.slice (some ⟨g, 0, none⟩) (z.lns.length + 1) cap) (z.lns.length + 1) (linVs z.lns ++ linV l)) (hg : (w.alloc x).grownBy w1 v.ownBlock) :
    w1.heap[zb]? = some (.cells #[.string (bs z.nam), .int .i64 z.off, .bool z.dst, .string (bs z.abb), v] 30 (0, 0)) ∧ SrH B w0 (w1.setCell ⟨zb, 4, none⟩ (.slice (some ⟨g, 0, none⟩) (z.lns.length + 1) cap)) zb { z with lns := z.lns ++ [l] } (.slice (some ⟨g, 0, none⟩) (z.lns.length + 1) cap) := by
  have r1 := (app_keep hg h.lt h.vz).trans h.row
  have v1 : w1.ownsRow B 58 13 (.slice (some ⟨g, 0, none⟩) (z.lns.length + 1) cap) (z.lns ++ [l]).length (linVs (z.lns ++ [l])) := by
    rw [linVs_snoc, List.length_append]
    exact hown
  have vM : Value.ownBlock (.slice (some ⟨g, 0, none⟩) (z.lns.length + 1) cap) ≠ some zb := own_kind v1 r1 (fun c fz e => by injection e with _ e2; exact absurd e2 (by decide))
  have hs := hg.size
  have hs2 : (w.alloc x).heap.size = w.heap.size + 1 := by simp
  have hs3 := h.sz
  refine ⟨r1, by rw [row_set1 r1]; rfl, own_stay v1 (fun k hk => row_other1 (fun e => vM (by rw [hk, e])) rfl 4 _), h.bz, (bel_append h.bel h.sz h.own hg).setCell (by exact h.bz) _, ?_⟩
  have e : B ≤ w1.heap.size := by omega
  simpa [World.setCell] using e
end
end Go.Proofs.YtafecnlaodgmkaaGreatDoor
namespace Go.Proofs.YtafecnlaodgmkaaGreatDoor
set_option linter.unusedVariables false
open Go.ChangeShapes Go.WideShapes Go.ChangeAt Go.RowKit
structure SB (z : Src) : Prop where
  lns : z.lns.length ≤ 9223372036854775807
  nam : z.nam.length ≤ 9223372036854775807
  abb : z.abb.length ≤ 9223372036854775807
  each : ∀ l ∈ z.lns, l.abb.length ≤ 9223372036854775807
  dn : ∀ l ∈ z.lns, -9223372036854775808 ≤ l.dn ∧ l.dn ≤ 9223372036854775807
theorem abb_len {L : List UInt8} (h : abbE L = 0) : L.length ≤ 6 := by
  unfold abbE at h
  split at h
  · rename_i k; exact k.2.2
  · cases h
theorem nam_len {L : List UInt8} (h : namE L = 0) : L.length ≤ 32 := by
  unfold namE at h
  split at h
  · rename_i k; exact k.2.1
  · cases h
theorem SB.of {z : Src} (h : OkS z) : SB z := by
  obtain ⟨h1, _, h2, h3, _, h4⟩ := h
  refine ⟨by omega, by have := nam_len h2; omega, by have := abb_len h3.2.2; omega, fun l hl => ?_, fun l hl => ?_⟩
  · have := abb_len (h4 l hl).2.2.2
    omega
  · rcases (h4 l hl).1 with ⟨_, _, _, _, _, e, _⟩ | ⟨_, _, _, _, _, _, _, e, _⟩
    · omega
    · rcases mayD_parts e with ⟨_, e, _⟩ | ⟨_, _, e⟩ | ⟨_, _, e⟩ | ⟨_, _, e⟩ <;> omega
theorem SB.none : SB src0 := ⟨by simp [src0], by simp [src0], by simp [src0], by intro l hl; simp [src0] at hl, by intro l hl; simp [src0] at hl⟩
end Go.Proofs.YtafecnlaodgmkaaGreatDoor
