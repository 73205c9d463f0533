/- Several texts in one: CivA, CivB, CivC, CivD, CivG, CivH, CivI, CivM. -/
import Derived.Test.YtafecnlaodgmkaaGreatDoorY2Sm
import Derived.Test.YtafecnlaodgmkaaGreatDoorY2Pkg1
import Derived.Test.YtafecnlaodgmkaaGreatDoorY2Ref1
import Derived.Test.YtafecnlaodgmkaaGreatDoorY2Pkg2
import Derived.Test.YtafecnlaodgmkaaGreatDoorY2RowS1
import Derived.WalkKit
import Derived.ProofKit
import Derived.Handy
import Derived.Outline
import Derived.Lib.Hide
import Derived.OwnWalk
import Derived.Deep.DrawnRows
import Derived.Deep.Cut
import Derived.Deep.RegionHeld3
import Derived.Lib.LaidTab
import Derived.LoopN
import Derived.Test.YtafecnlaodgmkaaGreatDoorRows
import Derived.LaidMore
import Derived.MakeChecks
import Derived.Stop.Joined
namespace Go.Proofs.YtafecnlaodgmkaaGreatDoor
set_option linter.unusedVariables false
set_option linter.unusedSimpArgs false
open Go.ChangeShapes Go.WideShapes Go.ChangeAt Go.RowKit
@[irreducible] def lpB (y : Int) : Bool := decide (y % 4 = 0) && (!decide (y % 100 = 0) || decide (y % 400 = 0))
@[irreducible] def mdI (y m : Int) : Int :=
  if m = 1 ∨ m = 3 ∨ m = 5 ∨ m = 7 ∨ m = 8 ∨ m = 10 ∨ m = 12 then 31 else if m = 4 ∨ m = 6 ∨ m = 9 ∨ m = 11 then 30 else if m = 2 then (if lpB y = true then 29 else 28) else 0
@[irreducible] def ydI (y : Int) : Int := if lpB y = true then 366 else 365
theorem tmod_zero (y k : Int) : (y.tmod k = 0) ↔ (y % k = 0) := by
  rw [← Int.dvd_iff_emod_eq_zero, ← Int.dvd_iff_tmod_eq_zero]
theorem lpB_tmod (y : Int) : lpB y = ((y.tmod 4 == 0) && (!(y.tmod 100 == 0) || (y.tmod 400 == 0))) := by
  have h (k : Int) : (y.tmod k == 0) = decide (y % k = 0) := by
    have := tmod_zero y k
    rw [Bool.eq_iff_iff, beq_iff_eq, decide_eq_true_eq]; exact this
  unfold lpB
  rw [h, h, h]
theorem lpB_iff (y : Int) : lpB y = true ↔ (y % 4 = 0 ∧ (y % 100 ≠ 0 ∨ y % 400 = 0)) := by
  unfold lpB; simp
theorem ydI_eq (y : Int) : (lpB y = true ∧ ydI y = 366) ∨ (lpB y = false ∧ ydI y = 365) := by
  unfold ydI
  cases h : lpB y
  · exact Or.inr ⟨rfl, if_neg (by decide)⟩
  · exact Or.inl ⟨rfl, if_pos rfl⟩
theorem mdI_1 (y : Int) : mdI y 1 = 31 := by unfold mdI; rfl
theorem mdI_2 (y : Int) : mdI y 3 = 31 := by unfold mdI; rfl
theorem mdI_3 (y : Int) : mdI y 5 = 31 := by unfold mdI; rfl
theorem mdI_4 (y : Int) : mdI y 7 = 31 := by unfold mdI; rfl
theorem mdI_5 (y : Int) : mdI y 8 = 31 := by unfold mdI; rfl
theorem mdI_6 (y : Int) : mdI y 10 = 31 := by unfold mdI; rfl
theorem mdI_7 (y : Int) : mdI y 12 = 31 := by unfold mdI; rfl
theorem mdI_8 (y : Int) : mdI y 4 = 30 := by unfold mdI; rfl
theorem mdI_9 (y : Int) : mdI y 6 = 30 := by unfold mdI; rfl
theorem mdI_a (y : Int) : mdI y 9 = 30 := by unfold mdI; rfl
theorem mdI_b (y : Int) : mdI y 11 = 30 := by unfold mdI; rfl
theorem mdI_feb (y : Int) : mdI y 2 = if lpB y = true then 29 else 28 := by unfold mdI; rfl
theorem mdI_none (y m : Int) (h : m < 1 ∨ 12 < m) : mdI y m = 0 := by unfold mdI; rw [if_neg (by omega), if_neg (by omega), if_neg (by omega)]
theorem month_cases (m : Int) : (m < 1 ∨ 12 < m) ∨ m = 1 ∨ m = 2 ∨ m = 3 ∨ m = 4 ∨ m = 5 ∨ m = 6 ∨ m = 7 ∨ m = 8 ∨ m = 9 ∨ m = 10 ∨ m = 11 ∨ m = 12 := by omega
theorem mdI_le (y m : Int) : 0 ≤ mdI y m ∧ mdI y m ≤ 31 := by 
  unfold mdI
  repeat' split
  all_goals omega
@[irreducible] def wdI (d : Int) : Int := (d + 3) % 7 + 1
end Go.Proofs.YtafecnlaodgmkaaGreatDoor
namespace Go.Proofs.YtafecnlaodgmkaaGreatDoor
set_option linter.unusedVariables false
set_option linter.unusedSimpArgs false
open Go.ChangeShapes Go.WideShapes Go.ChangeAt Go.RowKit
@[irreducible] def yst (y : Int) : Int := 365 * y + (y + 3) / 4 - (y + 99) / 100 + (y + 399) / 400 - 719528
theorem yst_400 (y : Int) : yst (y + 400) = yst y + 146097 := by unfold yst; omega
theorem yst_succ (y : Int) : yst (y + 1) = yst y + ydI y := by
  have h := lpB_iff y
  rcases ydI_eq y with ⟨h1, h2⟩ | ⟨h1, h2⟩
  · rw [h2]
    have := h.mp h1
    unfold yst; omega
  · rw [h2]
    have : ¬ (y % 4 = 0 ∧ (y % 100 ≠ 0 ∨ y % 400 = 0)) := fun k => by rw [h.mpr k] at h1; cases h1
    unfold yst; omega
theorem yst_bd {y : Int} (h : -1000000 ≤ y ∧ y ≤ 1000000) : -1000000000 ≤ yst y ∧ yst y ≤ 1000000000 := by unfold yst; omega
theorem ydI_bd (y : Int) : 365 ≤ ydI y ∧ ydI y ≤ 366 := by rcases ydI_eq y with ⟨_, h⟩ | ⟨_, h⟩ <;> rw [h] <;> decide
end Go.Proofs.YtafecnlaodgmkaaGreatDoor
namespace Go.Proofs.YtafecnlaodgmkaaGreatDoor
set_option linter.unusedVariables false
set_option linter.unusedSimpArgs false
open Go.ChangeShapes Go.WideShapes Go.ChangeAt Go.RowKit
theorem grow_of {P : Program} {f : Nat} {args : Array Value} {w : World} {v : Value} (h : Calls P f args w fun e w' => e = .returned v ∧ w = w') : Calls P f args w fun e w' => e = .returned v ∧ Below w.heap.size w w' :=
  h.mono fun e w' ⟨h1, h2⟩ => ⟨h1, h2 ▸ Below.refl _ _⟩
def cmN (y : Int) : Nat → Int | 0 => 0 | k + 1 => cmN y k + mdI y ((k : Int) + 1)
theorem cmN_bd (y : Int) (k : Nat) : 0 ≤ cmN y k ∧ cmN y k ≤ 31 * k := by
  induction k with
  | zero => exact ⟨Int.le_refl _, Int.le_refl _⟩
  | succ k ih => have := mdI_le y ((k : Int) + 1); show 0 ≤ cmN y k + _ ∧ cmN y k + _ ≤ _; omega
@[irreducible] def dnI (y m d : Int) : Int := yst y + cmN y (m - 1).toNat + d - 1
@[irreducible] def mayB (y m d : Int) : Bool := decide (1 ≤ d) && decide (d ≤ mdI y m)
@[irreducible] def ckC (y m d : Int) : Int := if mayB y m d = true then (if y < -9999 ∨ 9999 < y then 8 else 0) else 7
theorem mayB_yes {y m d : Int} (h : mayB y m d = true) : 1 ≤ d ∧ d ≤ mdI y m ∧ 1 ≤ m ∧ m ≤ 12 ∧ d ≤ 31 := by
  unfold mayB at h
  rw [Bool.and_eq_true, decide_eq_true_eq, decide_eq_true_eq] at h
  have h2 := mdI_le y m
  refine ⟨h.1, h.2, ?_, ?_, by omega⟩
  · by_cases hm : m < 1 ∨ 12 < m
    · have := mdI_none y m hm; omega
    · omega
  · by_cases hm : m < 1 ∨ 12 < m
    · have := mdI_none y m hm; omega
    · omega
theorem ckC_no {y m d : Int} (h : mayB y m d = false) : ckC y m d = 7 := by unfold ckC; exact if_neg (by rw [h]; decide)
theorem ckC_out {y m d : Int} (h : mayB y m d = true) (h2 : y < -9999 ∨ 9999 < y) : ckC y m d = 8 := by unfold ckC; rw [if_pos h]; exact if_pos h2
theorem ckC_ok {y m d : Int} (h : mayB y m d = true) (h2 : ¬ (y < -9999 ∨ 9999 < y)) : ckC y m d = 0 := by unfold ckC; rw [if_pos h]; exact if_neg h2
theorem of_ckC {y m d : Int} (h : ckC y m d = 0) : mayB y m d = true ∧ -9999 ≤ y ∧ y ≤ 9999 := by
  cases hm : mayB y m d
  · rw [ckC_no hm] at h; omega
  · by_cases h2 : y < -9999 ∨ 9999 < y
    · rw [ckC_out hm h2] at h; omega
    · exact ⟨rfl, by omega, by omega⟩
@[irreducible] def dyV (y m d : Int) : Int := if ckC y m d = 0 then dnI y m d else 0
@[irreducible] def orV (y m d : Int) : Int := if ckC y m d = 0 then dnI y m d - yst y + 1 else 0
theorem dy_ok {y m d : Int} (h : ckC y m d = 0) : dyV y m d = dnI y m d ∧ orV y m d = dnI y m d - yst y + 1 := by unfold dyV orV; exact ⟨if_pos h, if_pos h⟩
theorem dy_no {y m d : Int} (h : ckC y m d ≠ 0) : dyV y m d = 0 ∧ orV y m d = 0 := by unfold dyV orV; exact ⟨if_neg h, if_neg h⟩
theorem dn_bd {y m d : Int} (hy : -900000 ≤ y ∧ y ≤ 900000) (hm : 1 ≤ m ∧ m ≤ 12) (hd : 1 ≤ d ∧ d ≤ 31) : -1000000000 ≤ dnI y m d ∧ dnI y m d ≤ 1000001000 := by
  have h1 := yst_bd (y := y) (by omega)
  have h2 := cmN_bd y (m - 1).toNat
  unfold dnI; omega
end Go.Proofs.YtafecnlaodgmkaaGreatDoor
namespace Go.Proofs.YtafecnlaodgmkaaGreatDoor
set_option linter.unusedVariables false
set_option linter.unusedSimpArgs false
open Go.ChangeShapes Go.WideShapes Go.ChangeAt Go.RowKit
theorem cm_succ (y : Int) (k : Nat) : cmN y (k + 1) = cmN y k + mdI y ((k : Int) + 1) := rfl
theorem cm_year (y : Int) : cmN y 12 = ydI y := by
  have h2 : mdI y 2 = ydI y - 337 := by
    rw [mdI_feb]; rcases ydI_eq y with ⟨h, e⟩ | ⟨h, e⟩ <;> rw [h, e] <;> rfl
  have e : cmN y 12 = 0 + mdI y 1 + mdI y 2 + mdI y 3 + mdI y 4 + mdI y 5 + mdI y 6 + mdI y 7 + mdI y 8 + mdI y 9 + mdI y 10 + mdI y 11 + mdI y 12 := rfl
  rw [e, h2, mdI_1, mdI_2, mdI_3, mdI_4, mdI_5, mdI_6, mdI_7, mdI_8, mdI_9, mdI_a, mdI_b]; omega
theorem mdI_ge (y m : Int) (h : 1 ≤ m ∧ m ≤ 12) : 28 ≤ mdI y m := by
  rcases month_cases m with k | k | k | k | k | k | k | k | k | k | k | k | k
  · omega
  all_goals subst k
  · rw [mdI_1]; decide
  · rw [mdI_feb]; split <;> decide
  · rw [mdI_2]; decide
  · rw [mdI_8]; decide
  · rw [mdI_3]; decide
  · rw [mdI_9]; decide
  · rw [mdI_4]; decide
  · rw [mdI_5]; decide
  · rw [mdI_a]; decide
  · rw [mdI_6]; decide
  · rw [mdI_b]; decide
  · rw [mdI_7]; decide
theorem cm_mono (y : Int) (j k : Nat) (h : j ≤ k) : cmN y j ≤ cmN y k := by
  induction k with
  | zero => obtain rfl : j = 0 := by omega
            exact Int.le_refl _
  | succ k ih =>
    have h2 := mdI_le y ((k : Int) + 1)
    rw [cm_succ]
    by_cases e : j = k + 1
    · subst e; rw [cm_succ]; exact Int.le_refl _
    · have := ih (by omega); omega
theorem yst_mono {a b : Int} (h : a ≤ b) : yst a ≤ yst b := by unfold yst; omega
theorem dn_in {y m d : Int} (h : mayB y m d = true) : dnI y m d = yst y + cmN y (m - 1).toNat + d - 1 ∧ 0 ≤ cmN y (m - 1).toNat ∧ cmN y (m - 1).toNat + d ≤ ydI y := by
  obtain ⟨p1, p2, p3, p4, p5⟩ := mayB_yes h
  have h1 := cmN_bd y (m - 1).toNat
  have h2 := cm_mono y ((m - 1).toNat + 1) 12 (by omega)
  rw [cm_year, cm_succ, show (((m - 1).toNat : Nat) : Int) + 1 = m by omega] at h2
  exact ⟨by unfold dnI; rfl, h1.1, by omega⟩
theorem may_of {y m d : Int} (h1 : 1 ≤ d) (h2 : d ≤ mdI y m) : mayB y m d = true := by unfold mayB; rw [decide_eq_true h1, decide_eq_true h2]; rfl
theorem dn_next {y m d : Int} (h : mayB y m d = true) : ∃ y' m' d', mayB y' m' d' = true ∧ dnI y' m' d' = dnI y m d + 1 ∧
    ((y' = y ∧ m' = m ∧ d' = d + 1 ∧ d < mdI y m) ∨ (y' = y ∧ m' = m + 1 ∧ d' = 1 ∧ d = mdI y m ∧ m < 12) ∨ (y' = y + 1 ∧ m' = 1 ∧ d' = 1 ∧ d = mdI y m ∧ m = 12)) := by
  obtain ⟨p1, p2, p3, p4, p5⟩ := mayB_yes h
  by_cases h1 : d < mdI y m
  · exact ⟨y, m, d + 1, may_of (by omega) (by omega), by unfold dnI; omega, Or.inl ⟨rfl, rfl, rfl, h1⟩⟩
  · have hd : d = mdI y m := by omega
    by_cases h2 : m < 12
    · have g := mdI_ge y (m + 1) ⟨by omega, by omega⟩
      refine ⟨y, m + 1, 1, may_of (by omega) (by omega), ?_, Or.inr (Or.inl ⟨rfl, rfl, rfl, hd, h2⟩)⟩
      unfold dnI
      rw [show (m + 1 - 1).toNat = (m - 1).toNat + 1 by omega, cm_succ, show (((m - 1).toNat : Nat) : Int) + 1 = m by omega]
      omega
    · obtain rfl : m = 12 := by omega
      refine ⟨y + 1, 1, 1, may_of (by omega) (by rw [mdI_1]; decide), ?_, Or.inr (Or.inr ⟨rfl, rfl, rfl, hd, rfl⟩)⟩
      have e1 := yst_succ y
      have e2 := cm_year y
      have e3 : cmN y 12 = cmN y 11 + mdI y 12 := rfl
      have e4 : cmN (y + 1) (1 - 1 : Int).toNat = 0 := rfl
      have e5 : (12 - 1 : Int).toNat = 11 := rfl
      unfold dnI
      rw [e1, e4, e5]; omega
theorem dn_first : dnI (-9999) 1 1 = -4371587 ∧ mayB (-9999) 1 1 = true := ⟨by unfold dnI yst; decide, may_of (by decide) (by rw [mdI_1]; decide)⟩
theorem date_up (k : Nat) : ∃ y m d, mayB y m d = true ∧ -9999 ≤ y ∧ dnI y m d = -4371587 + (k : Int) := by
  induction k with
  | zero => exact ⟨-9999, 1, 1, dn_first.2, by decide, dn_first.1⟩
  | succ k ih =>
    obtain ⟨y, m, d, h1, h2, h3⟩ := ih
    obtain ⟨y', m', d', g1, g2, g3⟩ := dn_next h1
    exact ⟨y', m', d', g1, by rcases g3 with g | g | g <;> omega, by rw [g2, h3]; omega⟩
theorem yst_bounds : yst (-9999) = -4371587 ∧ yst 10000 = 2932897 := by unfold yst; decide
theorem date_ex (n : Int) (h1 : -4371587 ≤ n) (h2 : n ≤ 2932896) : ∃ y m d, mayB y m d = true ∧ -9999 ≤ y ∧ y ≤ 9999 ∧ dnI y m d = n := by
  obtain ⟨y, m, d, g1, g2, g3⟩ := date_up (n + 4371587).toNat
  refine ⟨y, m, d, g1, g2, ?_, by rw [g3]; omega⟩
  obtain ⟨e1, e2, e3⟩ := dn_in g1
  have p := mayB_yes g1
  by_cases hy : 10000 ≤ y
  · have := yst_mono hy
    have := yst_bounds.2
    omega
  · omega
end Go.Proofs.YtafecnlaodgmkaaGreatDoor
namespace Go.Proofs.YtafecnlaodgmkaaGreatDoor
set_option linter.unusedVariables false
set_option linter.unusedSimpArgs false
open Go.ChangeShapes Go.WideShapes Go.ChangeAt Go.RowKit
def mdT : List Int := [31, 28, 31, 30, 31, 30, 31, 31, 30, 31, 30, 31]
structure MD (w : World) : Prop where
  cell : ∀ i : Nat, i < 12 → w.cell? ⟨0, i, none⟩ = some (.int .i64 (mdT.getD i 0))
  size : 0 < w.heap.size
theorem MD.keep {w w' : World} {n : Nat} (h : MD w) (hb : Below n w w') (hn : 0 < n) : MD w' :=
  ⟨fun i hi => (hb.cell (p := ⟨0, i, none⟩) hn).trans (h.cell i hi), Nat.lt_of_lt_of_le h.size hb.size⟩
theorem md_keep {w w' : World} (h : Hid (MD w)) (hb : Below w.heap.size w w') : MD w' := h.out.keep hb h.out.size
set_option maxHeartbeats 1600000 in
theorem pLeap_p (y : Int) (w : World) : Calls Tryz.prog 107 #[.int .i64 y] w fun e w' => e = .returned (.bool (lpB y)) ∧ w = w' := by
  have E := Lib.hid (lpB_tmod y)
  generalize lpB y = l at *
  generalize h4 : y.tmod 4 = r4 at *
  generalize h100 : y.tmod 100 = r100 at *
  generalize h400 : y.tmod 400 = r400 at *
  go_enter Tryz.func107, Tryz.ntmps107
  go_wp2
  all_goals (go_ret; exact ⟨by rw [E.out]; simp [*], rfl⟩)
set_option maxHeartbeats 1600000 in
theorem pMonthDays_p (y m : Int) (w : World) (hM : MD w) : Calls Tryz.prog 75 #[.int .i64 y, .int .i64 m] w fun e w' => e = .returned (.int .i64 (mdI y m)) ∧ w = w' := by
  have X1 := pLeap_p y
  rcases month_cases m with h | h | h | h | h | h | h | h | h | h | h | h | h
  · have E := Lib.hid (mdI_none y m h)
    clear X1 hM
    rcases h with h | h
    · go_enter Tryz.func75, Tryz.ntmps75
      go_wp2
      go_ret
      exact ⟨by rw [E.out]; try rfl, rfl⟩
    · have h1 : ¬ m < 1 := by omega
      go_enter Tryz.func75, Tryz.ntmps75
      go_wp2
      go_ret
      exact ⟨by rw [E.out]; try rfl, rfl⟩
  case' inr.inr.inl =>
    subst h
    have E := Lib.hid (mdI_feb y)
    have c : w.cell? ⟨0, 1, none⟩ = some (.int .i64 28) := hM.cell 1 (by decide)
    clear hM
    cases hl : lpB y
    all_goals
      rw [hl] at X1
      have H1 := Lib.hid X1
      have HL := Lib.hid hl
      clear X1 hl
      go_enter Tryz.func75, Tryz.ntmps75
      go_wp2_with fail
      refine (H1.out _).mono ?_
      rintro e w1 ⟨rfl, rfl⟩
      go_wp2
      go_ret
      exact ⟨by rw [E.out, HL.out]; try rfl, rfl⟩
  all_goals
    clear X1
    subst h
    have c0 : w.cell? ⟨0, 0, none⟩ = some (.int .i64 31) := hM.cell 0 (by decide)
    have c2 : w.cell? ⟨0, 2, none⟩ = some (.int .i64 31) := hM.cell 2 (by decide)
    have c3 : w.cell? ⟨0, 3, none⟩ = some (.int .i64 30) := hM.cell 3 (by decide)
    have c4 : w.cell? ⟨0, 4, none⟩ = some (.int .i64 31) := hM.cell 4 (by decide)
    have c5 : w.cell? ⟨0, 5, none⟩ = some (.int .i64 30) := hM.cell 5 (by decide)
    have c6 : w.cell? ⟨0, 6, none⟩ = some (.int .i64 31) := hM.cell 6 (by decide)
    have c7 : w.cell? ⟨0, 7, none⟩ = some (.int .i64 31) := hM.cell 7 (by decide)
    have c8 : w.cell? ⟨0, 8, none⟩ = some (.int .i64 30) := hM.cell 8 (by decide)
    have c9 : w.cell? ⟨0, 9, none⟩ = some (.int .i64 31) := hM.cell 9 (by decide)
    have c10 : w.cell? ⟨0, 10, none⟩ = some (.int .i64 30) := hM.cell 10 (by decide)
    have c11 : w.cell? ⟨0, 11, none⟩ = some (.int .i64 31) := hM.cell 11 (by decide)
    clear hM
    go_enter Tryz.func75, Tryz.ntmps75
    go_wp2
    go_ret
    first
    | exact ⟨by rw [mdI_1]; rfl, rfl⟩ | exact ⟨by rw [mdI_2]; rfl, rfl⟩ | exact ⟨by rw [mdI_3]; rfl, rfl⟩ | exact ⟨by rw [mdI_4]; rfl, rfl⟩ | exact ⟨by rw [mdI_5]; rfl, rfl⟩ | exact ⟨by rw [mdI_6]; rfl, rfl⟩
    | exact ⟨by rw [mdI_7]; rfl, rfl⟩ | exact ⟨by rw [mdI_8]; rfl, rfl⟩ | exact ⟨by rw [mdI_9]; rfl, rfl⟩ | exact ⟨by rw [mdI_a]; rfl, rfl⟩ | exact ⟨by rw [mdI_b]; rfl, rfl⟩
theorem wd_parts2 (d : Int) : wdI d = (d.tmod 7 + 10) % 7 + 1 ∧ -7 < d.tmod 7 ∧ d.tmod 7 < 7 := by
  have h := Int.tmod_add_mul_tdiv d 7
  have h1 := Int.lt_tmod_of_pos d (show (0 : Int) < 7 by decide)
  have h2 := Int.tmod_lt_of_pos d (show (0 : Int) < 7 by decide)
  generalize d.tmod 7 = r at *
  generalize d.tdiv 7 = q at *
  unfold wdI
  exact ⟨by omega, by omega, h2⟩
set_option maxHeartbeats 1600000 in
theorem pWeekday_p (d : Int) (w : World) : Calls Tryz.prog 144 #[.int .i64 d] w fun e w' => e = .returned (.int .i64 (wdI d)) ∧ w = w' := by
  obtain ⟨h1, h2, h3⟩ := wd_parts2 d
  generalize hr : d.tmod 7 = r at *
  have E := Lib.hid h1
  clear h1
  have hp : 0 ≤ r + 10 := by omega
  go_enter Tryz.func144, Tryz.ntmps144
  go_wp2
  go_ret
  exact ⟨by rw [E.out]; try rfl, rfl⟩
theorem yst_past (y : Int) : yst y = -4371587 + (y + 9999) * 365 + (y + 9999) / 4 - (y + 9999) / 100 + (y + 9999) / 400 := by unfold yst; omega
set_option maxHeartbeats 1600000 in
theorem pFirst_p (y : Int) (hy : -9999 ≤ y ∧ y ≤ 9999) (w : World) : Calls Tryz.prog 133 #[.int .i64 y] w fun e w' => e = .returned (.int .i64 (yst y)) ∧ w = w' := by
  obtain ⟨y1, y2⟩ := hy
  have E := Lib.hid (yst_past y)
  have p1 : 0 ≤ y + 9999 := by omega
  have p2 : y + 9999 ≤ 20000 := by omega
  go_enter Tryz.func133, Tryz.ntmps133
  go_wp2
  go_ret
  exact ⟨by rw [E.out]; try rfl, rfl⟩
theorem year_of {n c r1 e r2 f r3 s : Int} (hc : n + 4371587 = 146097 * c + r1) (c1 : 0 ≤ r1) (c2 : r1 < 146097) (he : r1 = 36524 * e + r2) (e1 : 0 ≤ e) (e2 : e ≤ 3) (e3 : 0 ≤ r2) (e4 : e < 3 → r2 < 36524)
    (hf : r2 = 1461 * f + r3) (f0 : 0 ≤ f) (f1 : 0 ≤ r3) (f2 : r3 < 1461) (s1 : 0 ≤ s) (s2 : s ≤ 3) (s3 : 365 * s ≤ r3) (s4 : s < 3 → r3 < 365 * s + 365) :
    yst (-9999 + c * 400 + e * 100 + f * 4 + s) ≤ n ∧ n < yst (-9999 + c * 400 + e * 100 + f * 4 + s + 1) := by
  have f3 : f ≤ 24 := by omega
  have d1 : (400 * c + 100 * e + 4 * f + s) / 4 = 100 * c + 25 * e + f := by omega
  have d2 : (400 * c + 100 * e + 4 * f + s) / 100 = 4 * c + e := by omega
  have d3 : (400 * c + 100 * e + 4 * f + s) / 400 = c := by omega
  rw [yst_past, yst_past]
  rw [show -9999 + c * 400 + e * 100 + f * 4 + s + 9999 = 400 * c + 100 * e + 4 * f + s by omega, show -9999 + c * 400 + e * 100 + f * 4 + s + 1 + 9999 = 400 * c + 100 * e + 4 * f + s + 1 by omega, d1, d2, d3]
  refine ⟨by omega, ?_⟩
  by_cases hs : s < 3
  · have := s4 hs
    have g1 : (400 * c + 100 * e + 4 * f + s + 1) / 4 = 100 * c + 25 * e + f := by omega
    have g2 : (400 * c + 100 * e + 4 * f + s + 1) / 100 = 4 * c + e := by omega
    have g3 : (400 * c + 100 * e + 4 * f + s + 1) / 400 = c := by omega
    rw [g1, g2, g3]; omega
  · obtain rfl : s = 3 := by omega
    have g1 : (400 * c + 100 * e + 4 * f + 3 + 1) / 4 = 100 * c + 25 * e + f + 1 := by omega
    by_cases hf2 : f < 24
    · have g2 : (400 * c + 100 * e + 4 * f + 3 + 1) / 100 = 4 * c + e := by omega
      have g3 : (400 * c + 100 * e + 4 * f + 3 + 1) / 400 = c := by omega
      rw [g1, g2, g3]; omega
    · obtain rfl : f = 24 := by omega
      have g2 : (400 * c + 100 * e + 4 * 24 + 3 + 1) / 100 = 4 * c + e + 1 := by omega
      by_cases he2 : e < 3
      · have := e4 he2
        have g3 : (400 * c + 100 * e + 4 * 24 + 3 + 1) / 400 = c := by omega
        rw [g1, g2, g3]; omega
      · obtain rfl : e = 3 := by omega
        have g3 : (400 * c + 100 * 3 + 4 * 24 + 3 + 1) / 400 = c + 1 := by omega
        rw [g1, g2, g3]; omega
theorem year_one {n a b : Int} (ha : yst a ≤ n) (ha2 : n < yst (a + 1)) (hb : yst b ≤ n) (hb2 : n < yst (b + 1)) : a = b := by
  by_cases h1 : a + 1 ≤ b
  · have := yst_mono h1; omega
  · by_cases h2 : b + 1 ≤ a
    · have := yst_mono h2; omega
    · omega
theorem year_parts {n y : Int} (h1 : -4371587 ≤ n) (h2 : n ≤ 2932896) (hy1 : yst y ≤ n) (hy2 : n < yst (y + 1)) :
    ∃ c r1 e r2 f r3 s : Int, (n + 4371587) / 146097 = c ∧ (n + 4371587) % 146097 = r1 ∧ min (r1 / 36524) 3 = e ∧ r1 - e * 36524 = r2 ∧ r2 / 1461 = f ∧ r2 % 1461 = r3 ∧ min (r3 / 365) 3 = s ∧
      0 ≤ c ∧ c ≤ 50 ∧ 0 ≤ r1 ∧ r1 < 146097 ∧ 0 ≤ e ∧ e ≤ 3 ∧ 0 ≤ r2 ∧ r2 ≤ 36524 ∧ 0 ≤ f ∧ f ≤ 25 ∧ 0 ≤ r3 ∧ r3 < 1461 ∧ 0 ≤ s ∧ s ≤ 3 ∧ y = -9999 + c * 400 + e * 100 + f * 4 + s := by
  refine ⟨_, _, _, _, _, _, _, rfl, rfl, rfl, rfl, rfl, rfl, rfl, ?_⟩
  generalize hr : n + 4371587 = R
  generalize hc : R / 146097 = c
  generalize hr1 : R % 146097 = r1
  have b1 : 0 ≤ r1 ∧ r1 < 146097 ∧ R = 146097 * c + r1 ∧ 0 ≤ c ∧ c ≤ 50 := by omega
  generalize he : min (r1 / 36524) 3 = e
  have b2 : 0 ≤ e ∧ e ≤ 3 ∧ 0 ≤ r1 - e * 36524 ∧ (e < 3 → r1 - e * 36524 < 36524) ∧ r1 - e * 36524 ≤ 36524 := by
    rw [Int.min_def] at he; split at he <;> omega
  generalize hr2 : r1 - e * 36524 = r2 at *
  generalize hf : r2 / 1461 = f
  generalize hr3 : r2 % 1461 = r3
  have b3 : 0 ≤ r3 ∧ r3 < 1461 ∧ r2 = 1461 * f + r3 ∧ 0 ≤ f ∧ f ≤ 25 := by omega
  generalize hs : min (r3 / 365) 3 = s
  have b4 : 0 ≤ s ∧ s ≤ 3 ∧ 365 * s ≤ r3 ∧ (s < 3 → r3 < 365 * s + 365) := by
    rw [Int.min_def] at hs; split at hs <;> omega
  have K := year_of (n := n) (c := c) (r1 := r1) (e := e) (r2 := r2) (f := f) (r3 := r3) (s := s) (by omega) b1.1 b1.2.1 (by omega) b2.1 b2.2.1 b2.2.2.1 b2.2.2.2.1 b3.2.2.1 b3.2.2.2.1 b3.1 b3.2.1 b4.1 b4.2.1 b4.2.2.1 b4.2.2.2
  have := year_one hy1 hy2 K.1 K.2
  refine ⟨?_, ?_, ?_, ?_, ?_, ?_, ?_, ?_, ?_, ?_, ?_, ?_, ?_, ?_, this⟩
  all_goals omega
set_option maxHeartbeats 1600000 in
theorem pYearOf_p (y n : Int) (h1 : -4371587 ≤ n) (h2 : n ≤ 2932896) (hy1 : yst y ≤ n) (hy2 : n < yst (y + 1)) (w : World) : Calls Tryz.prog 139 #[.int .i64 n] w fun e w' => e = .returned (.int .i64 y) ∧ w = w' := by
  obtain ⟨c, r1, e, r2, f, r3, s, hc, hr1, he, hr2, hf, hr3, hs, c1, c2, a1, a2, e1, e2, a3, a4, f1, f2, a5, a6, s1, s2, rfl⟩ := year_parts h1 h2 hy1 hy2
  clear hy1 hy2
  have p1 : 0 ≤ n + 4371587 := by omega
  have K := Lib.hid (And.intro he (And.intro hr2 (And.intro hf (And.intro hr3 hs))))
  go_enter Tryz.func139, Tryz.ntmps139
  go_wp2
  all_goals
    go_ret
    refine ⟨congrArg (fun x => Ending.returned (Value.int .i64 x)) ?_, rfl⟩
    obtain ⟨k1, k2, k3, k4, k5⟩ := K.out
    omega
end Go.Proofs.YtafecnlaodgmkaaGreatDoor
namespace Go.Proofs.YtafecnlaodgmkaaGreatDoor
set_option linter.unusedVariables false
set_option linter.unusedSimpArgs false
open Go.ChangeShapes Go.WideShapes Go.ChangeAt Go.RowKit
theorem may_low {y m d : Int} (h : d < 1) : mayB y m d = false := by unfold mayB; rw [decide_eq_false (show ¬ 1 ≤ d by omega)]; rfl
theorem may_past {y m d : Int} (h : mdI y m < d) : mayB y m d = false := by unfold mayB; rw [decide_eq_false (show ¬ d ≤ mdI y m by omega), Bool.and_false]
set_option maxHeartbeats 3200000 in
set_option maxRecDepth 100000 in
theorem pCheck_any (y m d : Int) (w : World) (hM : MD w) : Calls Tryz.prog 145 #[.agg #[.int .i64 y, .int .i64 m, .int .i64 d]] w fun e w' => e = .returned (.int .i64 (ckC y m d)) ∧ Below w.heap.size w w' := by
  have H1 := Lib.hid (fun w h => grow_of (pMonthDays_p y m w h))
  replace hM := Lib.hid hM
  by_cases h0 : d < 1
  · have E := Lib.hid (ckC_no (may_low (y := y) (m := m) h0))
    go_enter Tryz.func145, Tryz.ntmps145
    go_wp2_with fail
    
    obtain ⟨W0, hW0⟩ : ∃ W0, W0 = (w.alloc (Obj.cells #[Value.int .i64 y, Value.int .i64 m, Value.int .i64 d] 95)) := ⟨_, rfl⟩
    have A1 := Lib.hid (row_at (k' := w.heap.size) (by simp) (row_by hW0 (heap_alloc_new _ _)))
    obtain ⟨A1_0, A1_1, A1_2⟩ := qw3 A1
    have zA1 := lt_of_heap A1.out
    have HB0 := Lib.hid (below_by hW0 ((Below.refl w.heap.size w).alloc (Nat.le_refl _) _))
    have zW0 := HB0.out.size
    have HW0 := Lib.hid hW0
    clear hW0
    try go_simp
    rw [← HW0.out]
    have hk0 : ∀ w2, Below W0.heap.size W0 w2 → w2.cell? ⟨w.heap.size, 0, none⟩ = some (.int .i64 y) := fun w2 hb => (by rw [hb.cell (p := ⟨w.heap.size, 0, none⟩) (by assumption)]; assumption)
    have hk1 : ∀ w2, Below W0.heap.size W0 w2 → w2.cell? ⟨w.heap.size, 1, none⟩ = some (.int .i64 m) := fun w2 hb => (by rw [hb.cell (p := ⟨w.heap.size, 1, none⟩) (by assumption)]; assumption)
    have hk2 : ∀ w2, Below W0.heap.size W0 w2 → w2.cell? ⟨w.heap.size, 2, none⟩ = some (.int .i64 d) := fun w2 hb => (by rw [hb.cell (p := ⟨w.heap.size, 2, none⟩) (by assumption)]; assumption)
    clear A1_0 A1_1 A1_2
    refine region_plan (S := fun w2 => Below W0.heap.size W0 w2) [(0, true), (1, true), (2, true), (3, true), (4, true), (5, true), (6, true), (7, true), (8, true), (9, true), (10, true), (11, true), (12, true), (13, true)] (by as_aux_lemma => kernel_rfl) (by as_aux_lemma => kernel_rfl) (by as_aux_lemma => kernel_rfl) (by as_aux_lemma => kernel_rfl) (Below.refl W0.heap.size W0).drew ?_
    have Y0 := Lib.hid (Below.refl W0.heap.size W0).drew
    refine plan_yes (v := ?v1) (by simp only [List.getElem?_toArray, List.getElem?_cons_zero, List.getElem?_cons_succ]; exact rfl) (Or.inl ⟨by as_aux_lemma => rfl, ?hy1⟩) ?rest1
    case hy1 => (intro w2 hSw; (try dsimp only at hSw); go_simp; try with_reducible rfl)
    try simp only [Act.put, List.setIfInBounds_toArray, List.set_cons_zero, List.set_cons_succ]
    refine plan_yes (v := ?v2) (by simp only [List.getElem?_toArray, List.getElem?_cons_zero, List.getElem?_cons_succ]; exact rfl) (Or.inl ⟨by as_aux_lemma => rfl, ?hy2⟩) ?rest2
    case hy2 => (intro w2 hSw; (try dsimp only at hSw); go_simp; try with_reducible rfl)
    try simp only [Act.put, List.setIfInBounds_toArray, List.set_cons_zero, List.set_cons_succ]
    refine plan_yes (v := ?v3) (by simp only [List.getElem?_toArray, List.getElem?_cons_zero, List.getElem?_cons_succ]; exact rfl) (Or.inl ⟨by as_aux_lemma => rfl, ?hy3⟩) ?rest3
    case hy3 => (intro w2 hSw; (try dsimp only at hSw); go_simp; try with_reducible rfl)
    try simp only [Act.put, List.setIfInBounds_toArray, List.set_cons_zero, List.set_cons_succ]
    refine plan_yes (v := ?v4) (by simp only [List.getElem?_toArray, List.getElem?_cons_zero, List.getElem?_cons_succ]; exact rfl) (Or.inl ⟨by as_aux_lemma => rfl, ?hy4⟩) ?rest4
    case hy4 => (intro w2 hSw; (try dsimp only at hSw); go_simp; try with_reducible rfl)
    try simp only [Act.put, List.setIfInBounds_toArray, List.set_cons_zero, List.set_cons_succ]
    refine plan_yes (v := undef) (by simp only [List.getElem?_toArray, List.getElem?_cons_zero, List.getElem?_cons_succ]; exact rfl) (Or.inr ⟨by as_aux_lemma => rfl, rfl⟩) ?_
    try simp only [Act.put, List.setIfInBounds_toArray, List.set_cons_zero, List.set_cons_succ]
    refine plan_yes (v := undef) (by simp only [List.getElem?_toArray, List.getElem?_cons_zero, List.getElem?_cons_succ]; exact rfl) (Or.inr ⟨by as_aux_lemma => rfl, rfl⟩) ?_
    try simp only [Act.put, List.setIfInBounds_toArray, List.set_cons_zero, List.set_cons_succ]
    refine plan_yes (v := undef) (by simp only [List.getElem?_toArray, List.getElem?_cons_zero, List.getElem?_cons_succ]; exact rfl) (Or.inr ⟨by as_aux_lemma => rfl, rfl⟩) ?_
    try simp only [Act.put, List.setIfInBounds_toArray, List.set_cons_zero, List.set_cons_succ]
    refine plan_yes (v := undef) (by simp only [List.getElem?_toArray, List.getElem?_cons_zero, List.getElem?_cons_succ]; exact rfl) (Or.inr ⟨by as_aux_lemma => rfl, rfl⟩) ?_
    try simp only [Act.put, List.setIfInBounds_toArray, List.set_cons_zero, List.set_cons_succ]
    refine plan_yes (v := undef) (by simp only [List.getElem?_toArray, List.getElem?_cons_zero, List.getElem?_cons_succ]; exact rfl) (Or.inr ⟨by as_aux_lemma => rfl, rfl⟩) ?_
    try simp only [Act.put, List.setIfInBounds_toArray, List.set_cons_zero, List.set_cons_succ]
    refine plan_yes (v := undef) (by simp only [List.getElem?_toArray, List.getElem?_cons_zero, List.getElem?_cons_succ]; exact rfl) (Or.inr ⟨by as_aux_lemma => rfl, rfl⟩) ?_
    try simp only [Act.put, List.setIfInBounds_toArray, List.set_cons_zero, List.set_cons_succ]
    refine plan_yes (v := undef) (by simp only [List.getElem?_toArray, List.getElem?_cons_zero, List.getElem?_cons_succ]; exact rfl) (Or.inr ⟨by as_aux_lemma => rfl, rfl⟩) ?_
    try simp only [Act.put, List.setIfInBounds_toArray, List.set_cons_zero, List.set_cons_succ]
    refine plan_yes (v := undef) (by simp only [List.getElem?_toArray, List.getElem?_cons_zero, List.getElem?_cons_succ]; exact rfl) (Or.inr ⟨by as_aux_lemma => rfl, rfl⟩) ?_
    try simp only [Act.put, List.setIfInBounds_toArray, List.set_cons_zero, List.set_cons_succ]
    refine plan_yes (v := ?v5) (by simp only [List.getElem?_toArray, List.getElem?_cons_zero, List.getElem?_cons_succ]; exact rfl) (Or.inl ⟨by as_aux_lemma => rfl, ?hy5⟩) ?rest5
    case hy5 => (intro w2 hSw; (try dsimp only at hSw); go_simp; try with_reducible rfl)
    try simp only [Act.put, List.setIfInBounds_toArray, List.set_cons_zero, List.set_cons_succ]
    refine plan_yes (v := ?v6) (by simp only [List.getElem?_toArray, List.getElem?_cons_zero, List.getElem?_cons_succ]; exact rfl) (Or.inl ⟨by as_aux_lemma => rfl, ?hy6⟩) ?rest6
    case hy6 => (intro w2 hSw; (try dsimp only at hSw); go_simp; try with_reducible rfl)
    try simp only [Act.put, List.setIfInBounds_toArray, List.set_cons_zero, List.set_cons_succ]
    refine plan_done (NoPanic.normal ?_)
    have B0 := Y0.out
    have BW := Lib.hid (HB0.out.trans (B0.mono zW0))
    go_simp
    go_wp2
    go_ret
    exact ⟨by rw [E.out]; try rfl, BW.out⟩
  · have hd0 : decide (d < 1) = false := decide_eq_false h0
    by_cases h1 : mdI y m < d
    · have E := Lib.hid (ckC_no (may_past (y := y) h1))
      generalize mdI y m = M at *
      go_enter Tryz.func145, Tryz.ntmps145
      go_wp2_with fail
      
      obtain ⟨W0, hW0⟩ : ∃ W0, W0 = (w.alloc (Obj.cells #[Value.int .i64 y, Value.int .i64 m, Value.int .i64 d] 95)) := ⟨_, rfl⟩
      have A1 := Lib.hid (row_at (k' := w.heap.size) (by simp) (row_by hW0 (heap_alloc_new _ _)))
      have HB0 := Lib.hid (below_by hW0 ((Below.refl w.heap.size w).alloc (by simp <;> omega) _))
      have HW0 := Lib.hid hW0
      clear hW0
      obtain ⟨A1_0, A1_1, A1_2⟩ := qw3 A1
      have zA1 := lt_of_heap A1.out
      try rw [← HW0.out]
      go_cut [3] (fun s3 wx => s3 = .bool true ∧ Below W0.heap.size W0 wx)
      case first =>
        go_region_held3 (fun w' => Below W0.heap.size W0 w' ∧ w'.cell? ⟨w.heap.size, 0, none⟩ = some (.int .i64 y) ∧ w'.cell? ⟨w.heap.size, 1, none⟩ = some (.int .i64 m) ∧ w'.cell? ⟨w.heap.size, 2, none⟩ = some (.int .i64 d))
    (first
      | ((try go_split_ands); refine ⟨(Below.refl _ _).drew, ?_, ?_, ?_⟩ <;> first | assumption | (rw [World.cell?_drew]; assumption))
      | ((try go_split_ands); refine ⟨keepS (W0 := W0) ?_ hb1, cellS (W0 := W0) ?_ hb1 ?_ ?_, cellS (W0 := W0) ?_ hb1 ?_ ?_, cellS (W0 := W0) ?_ hb1 ?_ ?_⟩ <;> first | assumption | omega)
      | ((try go_split_ands); refine ⟨keepA (W0 := W0) ?_ _, cellA (W0 := W0) ?_ _ ?_ ?_, cellA (W0 := W0) ?_ _ ?_ ?_, cellA (W0 := W0) ?_ _ ?_ ?_⟩ <;> first | assumption | omega)
      | ((try go_split_ands); refine ⟨keepAd (W0 := W0) ?_ _, cellAd (W0 := W0) ?_ _ ?_ ?_, cellAd (W0 := W0) ?_ _ ?_ ?_, cellAd (W0 := W0) ?_ _ ?_ ?_⟩ <;> first | assumption | omega | exact Below.refl _ _)
      | ((try go_split_ands); (with_reducible refine ⟨keep3 (W0 := W0) ?_ ?_ _ _ _, cell3 (W0 := W0) ?_ _ _ _ ?_ ?_, cell3 (W0 := W0) ?_ _ _ _ ?_ ?_, cell3 (W0 := W0) ?_ _ _ _ ?_ ?_⟩) <;> first | assumption | omega | exact Nat.le_refl _)
      | ((try go_split_ands); refine ⟨keep2 (W0 := W0) ?_ ?_ _ _, cell2 (W0 := W0) ?_ _ _ ?_ ?_, cell2 (W0 := W0) ?_ _ _ ?_ ?_, cell2 (W0 := W0) ?_ _ _ ?_ ?_⟩ <;> first | assumption | omega | exact Nat.le_refl _)
      | ((try go_split_ands); refine ⟨keepZ (W0 := W0) ?_ ?_ _, cellZ (W0 := W0) ?_ _ ?_ ?_, cellZ (W0 := W0) ?_ _ ?_ ?_, cellZ (W0 := W0) ?_ _ ?_ ?_⟩ <;> first | assumption | omega | exact Nat.le_refl _ | exact ⟨_, by assumption⟩))
    (first | (go_at_call 75; (with_reducible refine (H1.out _ ?_).mono ?_); (focus (refine md_keep (Lib.hid (md_keep hM HB0.out)) ?_; first | assumption | (with_reducible exact (Below.refl _ _).drew) | (go_split_ands; done) | ((try go_split_ands); assumption))); rintro e w1 ⟨rfl, hb1⟩; (try go_split_ands); have hge : W0.heap.size ≤ w1.heap.size := (by first | (refine (keepS (W0 := W0) ?_ hb1).size; assumption) | exact (hb1.size : W0.heap.size ≤ w1.heap.size)); (try have hrow := row_call hb1 hrow); (try have hrow := row_new hb1); (try have hrow := row_newd hb1); have hl1 := lt_below hb1; obtain ⟨hc1, hf1⟩ := bcell hb1; (try (have hrc := row_cellA hrow; clear hc1 hf1)); (try have hrf := row_frozA hrow)) | (go_at_call 75; refine (H1.out _ (by first | exact md_keep (Lib.hid (md_keep hM HB0.out)) (by assumption) | exact md_keep (Lib.hid (md_keep hM HB0.out)) (by (try go_split_ands); assumption) | exact md_keep (Lib.hid (md_keep hM HB0.out)) (Below.refl _ _).drew)).mono ?_; rintro e w1 ⟨rfl, hb1⟩; (try go_split_ands); have hge : W0.heap.size ≤ w1.heap.size := (by first | (refine (keepS (W0 := W0) ?_ hb1).size; assumption) | exact (hb1.size : W0.heap.size ≤ w1.heap.size)); (try have hrow := row_call hb1 hrow); (try have hrow := row_new hb1); (try have hrow := row_newd hb1); have hl1 := lt_below hb1; obtain ⟨hc1, hf1⟩ := bcell hb1; (try (have hrc := row_cellA hrow; clear hc1 hf1)); (try have hrf := row_frozA hrow)))
        all_goals (try go_split_ands)
        all_goals (go_wp2_with fail; go_meet; refine ⟨rfl, ?_⟩)
        all_goals first | (with_reducible assumption) | (with_reducible exact heap_alloc_new _ _) | (with_reducible exact row_set3 (by assumption) _ _ _) | assumption | exact heap_alloc_new _ _ | exact row_set (by assumption) _ _
      case rest =>
        obtain ⟨rfl, hB⟩ := hcut
        obtain ⟨V1, rfl⟩ : ∃ V, V = wc := ⟨_, rfl⟩
        clear A1_0 A1_1 A1_2 zA1
        replace A1 := Lib.hid (row_call hB A1.out)
        have B1 := Lib.hid (HB0.out.trans (hB.mono HB0.out.size))
        clear hB
        obtain ⟨A1_0, A1_1, A1_2⟩ := qw3 A1
        have zA1 := lt_of_heap A1.out
        go_wp2
        go_ret
        exact ⟨by rw [E.out]; try rfl, B1.out⟩
    · have hm : mayB y m d = true := may_of (by omega) (by omega)
      have hd1 : decide (mdI y m < d) = false := decide_eq_false h1
      by_cases h2 : y < -9999
      · have E := Lib.hid (ckC_out hm (Or.inl h2))
        clear hm
        generalize mdI y m = M at *
        go_enter Tryz.func145, Tryz.ntmps145
        go_wp2_with fail
        
        obtain ⟨W0, hW0⟩ : ∃ W0, W0 = (w.alloc (Obj.cells #[Value.int .i64 y, Value.int .i64 m, Value.int .i64 d] 95)) := ⟨_, rfl⟩
        have A1 := Lib.hid (row_at (k' := w.heap.size) (by simp) (row_by hW0 (heap_alloc_new _ _)))
        have HB0 := Lib.hid (below_by hW0 ((Below.refl w.heap.size w).alloc (by simp <;> omega) _))
        have HW0 := Lib.hid hW0
        clear hW0
        obtain ⟨A1_0, A1_1, A1_2⟩ := qw3 A1
        have zA1 := lt_of_heap A1.out
        try rw [← HW0.out]
        go_cut [3] (fun s3 wx => s3 = .bool false ∧ Below W0.heap.size W0 wx)
        case first =>
          go_region_held3 (fun w' => Below W0.heap.size W0 w' ∧ w'.cell? ⟨w.heap.size, 0, none⟩ = some (.int .i64 y) ∧ w'.cell? ⟨w.heap.size, 1, none⟩ = some (.int .i64 m) ∧ w'.cell? ⟨w.heap.size, 2, none⟩ = some (.int .i64 d))
    (first
      | ((try go_split_ands); refine ⟨(Below.refl _ _).drew, ?_, ?_, ?_⟩ <;> first | assumption | (rw [World.cell?_drew]; assumption))
      | ((try go_split_ands); refine ⟨keepS (W0 := W0) ?_ hb1, cellS (W0 := W0) ?_ hb1 ?_ ?_, cellS (W0 := W0) ?_ hb1 ?_ ?_, cellS (W0 := W0) ?_ hb1 ?_ ?_⟩ <;> first | assumption | omega)
      | ((try go_split_ands); refine ⟨keepA (W0 := W0) ?_ _, cellA (W0 := W0) ?_ _ ?_ ?_, cellA (W0 := W0) ?_ _ ?_ ?_, cellA (W0 := W0) ?_ _ ?_ ?_⟩ <;> first | assumption | omega)
      | ((try go_split_ands); refine ⟨keepAd (W0 := W0) ?_ _, cellAd (W0 := W0) ?_ _ ?_ ?_, cellAd (W0 := W0) ?_ _ ?_ ?_, cellAd (W0 := W0) ?_ _ ?_ ?_⟩ <;> first | assumption | omega | exact Below.refl _ _)
      | ((try go_split_ands); (with_reducible refine ⟨keep3 (W0 := W0) ?_ ?_ _ _ _, cell3 (W0 := W0) ?_ _ _ _ ?_ ?_, cell3 (W0 := W0) ?_ _ _ _ ?_ ?_, cell3 (W0 := W0) ?_ _ _ _ ?_ ?_⟩) <;> first | assumption | omega | exact Nat.le_refl _)
      | ((try go_split_ands); refine ⟨keep2 (W0 := W0) ?_ ?_ _ _, cell2 (W0 := W0) ?_ _ _ ?_ ?_, cell2 (W0 := W0) ?_ _ _ ?_ ?_, cell2 (W0 := W0) ?_ _ _ ?_ ?_⟩ <;> first | assumption | omega | exact Nat.le_refl _)
      | ((try go_split_ands); refine ⟨keepZ (W0 := W0) ?_ ?_ _, cellZ (W0 := W0) ?_ _ ?_ ?_, cellZ (W0 := W0) ?_ _ ?_ ?_, cellZ (W0 := W0) ?_ _ ?_ ?_⟩ <;> first | assumption | omega | exact Nat.le_refl _ | exact ⟨_, by assumption⟩))
    (first | (go_at_call 75; (with_reducible refine (H1.out _ ?_).mono ?_); (focus (refine md_keep (Lib.hid (md_keep hM HB0.out)) ?_; first | assumption | (with_reducible exact (Below.refl _ _).drew) | (go_split_ands; done) | ((try go_split_ands); assumption))); rintro e w1 ⟨rfl, hb1⟩; (try go_split_ands); have hge : W0.heap.size ≤ w1.heap.size := (by first | (refine (keepS (W0 := W0) ?_ hb1).size; assumption) | exact (hb1.size : W0.heap.size ≤ w1.heap.size)); (try have hrow := row_call hb1 hrow); (try have hrow := row_new hb1); (try have hrow := row_newd hb1); have hl1 := lt_below hb1; obtain ⟨hc1, hf1⟩ := bcell hb1; (try (have hrc := row_cellA hrow; clear hc1 hf1)); (try have hrf := row_frozA hrow)) | (go_at_call 75; refine (H1.out _ (by first | exact md_keep (Lib.hid (md_keep hM HB0.out)) (by assumption) | exact md_keep (Lib.hid (md_keep hM HB0.out)) (by (try go_split_ands); assumption) | exact md_keep (Lib.hid (md_keep hM HB0.out)) (Below.refl _ _).drew)).mono ?_; rintro e w1 ⟨rfl, hb1⟩; (try go_split_ands); have hge : W0.heap.size ≤ w1.heap.size := (by first | (refine (keepS (W0 := W0) ?_ hb1).size; assumption) | exact (hb1.size : W0.heap.size ≤ w1.heap.size)); (try have hrow := row_call hb1 hrow); (try have hrow := row_new hb1); (try have hrow := row_newd hb1); have hl1 := lt_below hb1; obtain ⟨hc1, hf1⟩ := bcell hb1; (try (have hrc := row_cellA hrow; clear hc1 hf1)); (try have hrf := row_frozA hrow)))
          all_goals (try go_split_ands)
          all_goals (go_wp2_with fail; go_meet; refine ⟨rfl, ?_⟩)
          all_goals first | (with_reducible assumption) | (with_reducible exact heap_alloc_new _ _) | (with_reducible exact row_set3 (by assumption) _ _ _) | assumption | exact heap_alloc_new _ _ | exact row_set (by assumption) _ _
        case rest =>
          obtain ⟨rfl, hB⟩ := hcut
          obtain ⟨V1, rfl⟩ : ∃ V, V = wc := ⟨_, rfl⟩
          clear A1_0 A1_1 A1_2 zA1
          replace A1 := Lib.hid (row_call hB A1.out)
          have B1 := Lib.hid (HB0.out.trans (hB.mono HB0.out.size))
          clear hB
          obtain ⟨A1_0, A1_1, A1_2⟩ := qw3 A1
          have zA1 := lt_of_heap A1.out
          go_wp2
          go_ret
          exact ⟨by rw [E.out]; try rfl, B1.out⟩
      · by_cases h3 : (9999 : Int) < y
        · have E := Lib.hid (ckC_out hm (Or.inr h3))
          clear hm
          generalize mdI y m = M at *
          go_enter Tryz.func145, Tryz.ntmps145
          go_wp2_with fail
          
          obtain ⟨W0, hW0⟩ : ∃ W0, W0 = (w.alloc (Obj.cells #[Value.int .i64 y, Value.int .i64 m, Value.int .i64 d] 95)) := ⟨_, rfl⟩
          have A1 := Lib.hid (row_at (k' := w.heap.size) (by simp) (row_by hW0 (heap_alloc_new _ _)))
          have HB0 := Lib.hid (below_by hW0 ((Below.refl w.heap.size w).alloc (by simp <;> omega) _))
          have HW0 := Lib.hid hW0
          clear hW0
          obtain ⟨A1_0, A1_1, A1_2⟩ := qw3 A1
          have zA1 := lt_of_heap A1.out
          try rw [← HW0.out]
          go_cut [3] (fun s3 wx => s3 = .bool false ∧ Below W0.heap.size W0 wx)
          case first =>
            go_region_held3 (fun w' => Below W0.heap.size W0 w' ∧ w'.cell? ⟨w.heap.size, 0, none⟩ = some (.int .i64 y) ∧ w'.cell? ⟨w.heap.size, 1, none⟩ = some (.int .i64 m) ∧ w'.cell? ⟨w.heap.size, 2, none⟩ = some (.int .i64 d))
    (first
      | ((try go_split_ands); refine ⟨(Below.refl _ _).drew, ?_, ?_, ?_⟩ <;> first | assumption | (rw [World.cell?_drew]; assumption))
      | ((try go_split_ands); refine ⟨keepS (W0 := W0) ?_ hb1, cellS (W0 := W0) ?_ hb1 ?_ ?_, cellS (W0 := W0) ?_ hb1 ?_ ?_, cellS (W0 := W0) ?_ hb1 ?_ ?_⟩ <;> first | assumption | omega)
      | ((try go_split_ands); refine ⟨keepA (W0 := W0) ?_ _, cellA (W0 := W0) ?_ _ ?_ ?_, cellA (W0 := W0) ?_ _ ?_ ?_, cellA (W0 := W0) ?_ _ ?_ ?_⟩ <;> first | assumption | omega)
      | ((try go_split_ands); refine ⟨keepAd (W0 := W0) ?_ _, cellAd (W0 := W0) ?_ _ ?_ ?_, cellAd (W0 := W0) ?_ _ ?_ ?_, cellAd (W0 := W0) ?_ _ ?_ ?_⟩ <;> first | assumption | omega | exact Below.refl _ _)
      | ((try go_split_ands); (with_reducible refine ⟨keep3 (W0 := W0) ?_ ?_ _ _ _, cell3 (W0 := W0) ?_ _ _ _ ?_ ?_, cell3 (W0 := W0) ?_ _ _ _ ?_ ?_, cell3 (W0 := W0) ?_ _ _ _ ?_ ?_⟩) <;> first | assumption | omega | exact Nat.le_refl _)
      | ((try go_split_ands); refine ⟨keep2 (W0 := W0) ?_ ?_ _ _, cell2 (W0 := W0) ?_ _ _ ?_ ?_, cell2 (W0 := W0) ?_ _ _ ?_ ?_, cell2 (W0 := W0) ?_ _ _ ?_ ?_⟩ <;> first | assumption | omega | exact Nat.le_refl _)
      | ((try go_split_ands); refine ⟨keepZ (W0 := W0) ?_ ?_ _, cellZ (W0 := W0) ?_ _ ?_ ?_, cellZ (W0 := W0) ?_ _ ?_ ?_, cellZ (W0 := W0) ?_ _ ?_ ?_⟩ <;> first | assumption | omega | exact Nat.le_refl _ | exact ⟨_, by assumption⟩))
    (first | (go_at_call 75; (with_reducible refine (H1.out _ ?_).mono ?_); (focus (refine md_keep (Lib.hid (md_keep hM HB0.out)) ?_; first | assumption | (with_reducible exact (Below.refl _ _).drew) | (go_split_ands; done) | ((try go_split_ands); assumption))); rintro e w1 ⟨rfl, hb1⟩; (try go_split_ands); have hge : W0.heap.size ≤ w1.heap.size := (by first | (refine (keepS (W0 := W0) ?_ hb1).size; assumption) | exact (hb1.size : W0.heap.size ≤ w1.heap.size)); (try have hrow := row_call hb1 hrow); (try have hrow := row_new hb1); (try have hrow := row_newd hb1); have hl1 := lt_below hb1; obtain ⟨hc1, hf1⟩ := bcell hb1; (try (have hrc := row_cellA hrow; clear hc1 hf1)); (try have hrf := row_frozA hrow)) | (go_at_call 75; refine (H1.out _ (by first | exact md_keep (Lib.hid (md_keep hM HB0.out)) (by assumption) | exact md_keep (Lib.hid (md_keep hM HB0.out)) (by (try go_split_ands); assumption) | exact md_keep (Lib.hid (md_keep hM HB0.out)) (Below.refl _ _).drew)).mono ?_; rintro e w1 ⟨rfl, hb1⟩; (try go_split_ands); have hge : W0.heap.size ≤ w1.heap.size := (by first | (refine (keepS (W0 := W0) ?_ hb1).size; assumption) | exact (hb1.size : W0.heap.size ≤ w1.heap.size)); (try have hrow := row_call hb1 hrow); (try have hrow := row_new hb1); (try have hrow := row_newd hb1); have hl1 := lt_below hb1; obtain ⟨hc1, hf1⟩ := bcell hb1; (try (have hrc := row_cellA hrow; clear hc1 hf1)); (try have hrf := row_frozA hrow)))
            all_goals (try go_split_ands)
            all_goals (go_wp2_with fail; go_meet; refine ⟨rfl, ?_⟩)
            all_goals first | (with_reducible assumption) | (with_reducible exact heap_alloc_new _ _) | (with_reducible exact row_set3 (by assumption) _ _ _) | assumption | exact heap_alloc_new _ _ | exact row_set (by assumption) _ _
          case rest =>
            obtain ⟨rfl, hB⟩ := hcut
            obtain ⟨V1, rfl⟩ : ∃ V, V = wc := ⟨_, rfl⟩
            clear A1_0 A1_1 A1_2 zA1
            replace A1 := Lib.hid (row_call hB A1.out)
            have B1 := Lib.hid (HB0.out.trans (hB.mono HB0.out.size))
            clear hB
            obtain ⟨A1_0, A1_1, A1_2⟩ := qw3 A1
            have zA1 := lt_of_heap A1.out
            go_wp2
            go_ret
            exact ⟨by rw [E.out]; try rfl, B1.out⟩
        · have E := Lib.hid (ckC_ok hm (fun h => h.elim h2 h3))
          clear hm
          generalize mdI y m = M at *
          go_enter Tryz.func145, Tryz.ntmps145
          go_wp2_with fail
          
          obtain ⟨W0, hW0⟩ : ∃ W0, W0 = (w.alloc (Obj.cells #[Value.int .i64 y, Value.int .i64 m, Value.int .i64 d] 95)) := ⟨_, rfl⟩
          have A1 := Lib.hid (row_at (k' := w.heap.size) (by simp) (row_by hW0 (heap_alloc_new _ _)))
          have HB0 := Lib.hid (below_by hW0 ((Below.refl w.heap.size w).alloc (by simp <;> omega) _))
          have HW0 := Lib.hid hW0
          clear hW0
          obtain ⟨A1_0, A1_1, A1_2⟩ := qw3 A1
          have zA1 := lt_of_heap A1.out
          try rw [← HW0.out]
          go_cut [3] (fun s3 wx => s3 = .bool false ∧ Below W0.heap.size W0 wx)
          case first =>
            go_region_held3 (fun w' => Below W0.heap.size W0 w' ∧ w'.cell? ⟨w.heap.size, 0, none⟩ = some (.int .i64 y) ∧ w'.cell? ⟨w.heap.size, 1, none⟩ = some (.int .i64 m) ∧ w'.cell? ⟨w.heap.size, 2, none⟩ = some (.int .i64 d))
    (first
      | ((try go_split_ands); refine ⟨(Below.refl _ _).drew, ?_, ?_, ?_⟩ <;> first | assumption | (rw [World.cell?_drew]; assumption))
      | ((try go_split_ands); refine ⟨keepS (W0 := W0) ?_ hb1, cellS (W0 := W0) ?_ hb1 ?_ ?_, cellS (W0 := W0) ?_ hb1 ?_ ?_, cellS (W0 := W0) ?_ hb1 ?_ ?_⟩ <;> first | assumption | omega)
      | ((try go_split_ands); refine ⟨keepA (W0 := W0) ?_ _, cellA (W0 := W0) ?_ _ ?_ ?_, cellA (W0 := W0) ?_ _ ?_ ?_, cellA (W0 := W0) ?_ _ ?_ ?_⟩ <;> first | assumption | omega)
      | ((try go_split_ands); refine ⟨keepAd (W0 := W0) ?_ _, cellAd (W0 := W0) ?_ _ ?_ ?_, cellAd (W0 := W0) ?_ _ ?_ ?_, cellAd (W0 := W0) ?_ _ ?_ ?_⟩ <;> first | assumption | omega | exact Below.refl _ _)
      | ((try go_split_ands); (with_reducible refine ⟨keep3 (W0 := W0) ?_ ?_ _ _ _, cell3 (W0 := W0) ?_ _ _ _ ?_ ?_, cell3 (W0 := W0) ?_ _ _ _ ?_ ?_, cell3 (W0 := W0) ?_ _ _ _ ?_ ?_⟩) <;> first | assumption | omega | exact Nat.le_refl _)
      | ((try go_split_ands); refine ⟨keep2 (W0 := W0) ?_ ?_ _ _, cell2 (W0 := W0) ?_ _ _ ?_ ?_, cell2 (W0 := W0) ?_ _ _ ?_ ?_, cell2 (W0 := W0) ?_ _ _ ?_ ?_⟩ <;> first | assumption | omega | exact Nat.le_refl _)
      | ((try go_split_ands); refine ⟨keepZ (W0 := W0) ?_ ?_ _, cellZ (W0 := W0) ?_ _ ?_ ?_, cellZ (W0 := W0) ?_ _ ?_ ?_, cellZ (W0 := W0) ?_ _ ?_ ?_⟩ <;> first | assumption | omega | exact Nat.le_refl _ | exact ⟨_, by assumption⟩))
    (first | (go_at_call 75; (with_reducible refine (H1.out _ ?_).mono ?_); (focus (refine md_keep (Lib.hid (md_keep hM HB0.out)) ?_; first | assumption | (with_reducible exact (Below.refl _ _).drew) | (go_split_ands; done) | ((try go_split_ands); assumption))); rintro e w1 ⟨rfl, hb1⟩; (try go_split_ands); have hge : W0.heap.size ≤ w1.heap.size := (by first | (refine (keepS (W0 := W0) ?_ hb1).size; assumption) | exact (hb1.size : W0.heap.size ≤ w1.heap.size)); (try have hrow := row_call hb1 hrow); (try have hrow := row_new hb1); (try have hrow := row_newd hb1); have hl1 := lt_below hb1; obtain ⟨hc1, hf1⟩ := bcell hb1; (try (have hrc := row_cellA hrow; clear hc1 hf1)); (try have hrf := row_frozA hrow)) | (go_at_call 75; refine (H1.out _ (by first | exact md_keep (Lib.hid (md_keep hM HB0.out)) (by assumption) | exact md_keep (Lib.hid (md_keep hM HB0.out)) (by (try go_split_ands); assumption) | exact md_keep (Lib.hid (md_keep hM HB0.out)) (Below.refl _ _).drew)).mono ?_; rintro e w1 ⟨rfl, hb1⟩; (try go_split_ands); have hge : W0.heap.size ≤ w1.heap.size := (by first | (refine (keepS (W0 := W0) ?_ hb1).size; assumption) | exact (hb1.size : W0.heap.size ≤ w1.heap.size)); (try have hrow := row_call hb1 hrow); (try have hrow := row_new hb1); (try have hrow := row_newd hb1); have hl1 := lt_below hb1; obtain ⟨hc1, hf1⟩ := bcell hb1; (try (have hrc := row_cellA hrow; clear hc1 hf1)); (try have hrf := row_frozA hrow)))
            all_goals (try go_split_ands)
            all_goals (go_wp2_with fail; go_meet; refine ⟨rfl, ?_⟩)
            all_goals first | (with_reducible assumption) | (with_reducible exact heap_alloc_new _ _) | (with_reducible exact row_set3 (by assumption) _ _ _) | assumption | exact heap_alloc_new _ _ | exact row_set (by assumption) _ _
          case rest =>
            obtain ⟨rfl, hB⟩ := hcut
            obtain ⟨V1, rfl⟩ : ∃ V, V = wc := ⟨_, rfl⟩
            clear A1_0 A1_1 A1_2 zA1
            replace A1 := Lib.hid (row_call hB A1.out)
            have B1 := Lib.hid (HB0.out.trans (hB.mono HB0.out.size))
            clear hB
            obtain ⟨A1_0, A1_1, A1_2⟩ := qw3 A1
            have zA1 := lt_of_heap A1.out
            go_wp2
            go_ret
            exact ⟨by rw [E.out]; try rfl, B1.out⟩
set_option maxHeartbeats 3200000 in
set_option maxRecDepth 100000 in
theorem pOrdinal_any (y m d : Int) (w : World) (hM : MD w) : Calls Tryz.prog 132 #[.agg #[.int .i64 y, .int .i64 m, .int .i64 d]] w fun e w' => e = .returned (.tuple #[.int .i64 (orV y m d), .int .i64 (ckC y m d)]) ∧ Below w.heap.size w w' := by
  have X1 := pCheck_any y m d
  replace hM := Lib.hid hM
  by_cases hc : ckC y m d = 0
  · obtain ⟨o1, o2, o3⟩ := of_ckC hc
    obtain ⟨p1, p2, p3, p4, p5⟩ := mayB_yes o1
    have q0 := (dn_in o1).1
    have E : Hid (orV y m d = d + cmN y (m - 1).toNat) := Lib.hid (by rw [(dy_ok hc).2, q0]; omega)
    rw [hc] at X1 ⊢
    have H1 := Lib.hid X1
    clear X1 hc o1 o2 o3 p2 q0
    go_enter Tryz.func132, Tryz.ntmps132
    go_wp2_with fail
    
    refine (H1.out _ (by first | exact md_keep hM ((Below.refl w.heap.size w).alloc (Nat.le_refl _) _))).mono ?_
    rintro e V1 ⟨rfl, hb1⟩
    have B1 := nby hb1
    have A1 := Lib.hid (row_call hb1 (heap_alloc_new _ _))
    clear hb1
    obtain ⟨A1_0, A1_1, A1_2⟩ := qw3 A1
    have zA1 := lt_of_heap A1.out
    have hMV := md_keep hM B1.out
    have HP := Lib.hid (fun t => pMonthDays_p y t _ hMV)
    clear hMV hM
    go_simp
    go_wp2
    go_loop [5, 6] (fun n t => ∃ k : Nat, k ≤ (m - 1).toNat ∧ t = .int .i64 ((k : Int) + 1) ∧ n = .int .i64 (d + cmN y k)) (fun _ t => (m - intOf t).toNat)
    case atStart => exact ⟨0, by omega, rfl, by show _ = Value.int .i64 (d + 0); rw [Int.add_zero]⟩
    case round =>
      obtain ⟨k, k1, rfl, rfl⟩ := hrel
      have c1 := cmN_bd y k
      have c2 := mdI_le y ((k : Int) + 1)
      have c3 : Hid (cmN y (k + 1) = cmN y k + mdI y ((k : Int) + 1)) := Lib.hid rfl
      have H2 := Lib.hid (HP.out ((k : Int) + 1))
      clear HP
      by_cases hlt : (k : Int) + 1 < m
      · have k2 : (k : Int) ≤ 12 := by omega
        generalize mdI y ((k : Int) + 1) = M at *
        go_wp2_with fail
        refine H2.out.mono ?_
        rintro e w1 ⟨rfl, rfl⟩
        go_wp2
        go_round
        case rel => exact ⟨k + 1, by omega, by go_num, by rw [c3.out]; congr 1; omega⟩
        case measure => simp [intOf]; omega
      · have k2 : (k : Int) ≤ 12 := by omega
        obtain rfl : k = (m - 1).toNat := by omega
        clear c3 H2 c2 k1 k2 hlt
        generalize cmN y (m - 1).toNat = C at *
        have c4 : C ≤ 400 := by omega
        have c5 : 0 ≤ C := c1.1
        clear c1
        go_wp2
        go_ret2
        exact ⟨by rw [E.out]; try rfl, B1.out⟩
  · rw [(dy_no hc).2]
    have H1 := Lib.hid X1
    clear X1
    generalize ckC y m d = E at *
    have f1 : (E != 0) = true := by rw [bne_iff_ne]; exact hc
    go_enter Tryz.func132, Tryz.ntmps132
    go_wp2_with fail
    
    refine (H1.out _ (by first | exact md_keep hM ((Below.refl w.heap.size w).alloc (Nat.le_refl _) _))).mono ?_
    rintro e V1 ⟨rfl, hb1⟩
    have B1 := nby hb1
    have A1 := Lib.hid (row_call hb1 (heap_alloc_new _ _))
    clear hb1
    obtain ⟨A1_0, A1_1, A1_2⟩ := qw3 A1
    have zA1 := lt_of_heap A1.out
    go_simp
    go_wp2
    go_ret2
    exact ⟨rfl, B1.out⟩
set_option maxHeartbeats 3200000 in
set_option maxRecDepth 100000 in
theorem pDays_any (y m d : Int) (w : World) (hM : MD w) : Calls Tryz.prog 109 #[.agg #[.int .i64 y, .int .i64 m, .int .i64 d]] w fun e w' => e = .returned (.tuple #[.int .i64 (dyV y m d), .int .i64 (ckC y m d)]) ∧ Below w.heap.size w w' := by
  have X1 := pOrdinal_any y m d
  replace hM := Lib.hid hM
  by_cases hc : ckC y m d = 0
  · obtain ⟨o1, o2, o3⟩ := of_ckC hc
    have q0 := dn_in o1
    have p0 := mayB_yes o1
    have q1 := yst_bd (y := y) (by omega)
    have q2 := ydI_bd y
    have H2 := Lib.hid (fun w => grow_of (pFirst_p y ⟨o2, o3⟩ w))
    have E : Hid (dyV y m d = yst y + orV y m d - 1) := Lib.hid (by rw [(dy_ok hc).1, (dy_ok hc).2]; omega)
    have g1 : 0 ≤ orV y m d := by rw [(dy_ok hc).2]; omega
    have g2 : orV y m d ≤ 400 := by rw [(dy_ok hc).2]; omega
    rw [hc] at X1 ⊢
    have H1 := Lib.hid X1
    obtain ⟨g3, g4⟩ := q1
    clear X1 hc o1 o2 o3 q0 q2 p0
    generalize orV y m d = O at *
    generalize yst y = S at *
    go_enter Tryz.func109, Tryz.ntmps109
    go_wp2_with fail
    
    refine (H1.out _ (by first | exact md_keep hM ((Below.refl w.heap.size w).alloc (Nat.le_refl _) _))).mono ?_
    rintro e V1 ⟨rfl, hb1⟩
    have B1 := nby hb1
    have A1 := Lib.hid (row_call hb1 (heap_alloc_new _ _))
    clear hb1
    obtain ⟨A1_0, A1_1, A1_2⟩ := qw3 A1
    have zA1 := lt_of_heap A1.out
    go_simp
    go_wp2_with fail
    refine (H2.out _).mono ?_
    rintro e V2 ⟨rfl, hb2⟩
    clear A1_0 A1_1 A1_2 zA1
    have B2 : Hid (Below w.heap.size w V2) := nbx B1 hb2
    replace A1 := rcx hb2 A1
    clear hb2
    obtain ⟨A1_0, A1_1, A1_2⟩ := qw3 A1
    have zA1 := lt_of_heap A1.out
    go_simp
    go_wp2
    go_ret2
    exact ⟨by rw [E.out]; try rfl, B2.out⟩
  · rw [(dy_no hc).1]
    have H1 := Lib.hid X1
    clear X1
    rw [(dy_no hc).2] at H1
    generalize ckC y m d = E at *
    have f1 : (E != 0) = true := by rw [bne_iff_ne]; exact hc
    go_enter Tryz.func109, Tryz.ntmps109
    go_wp2_with fail
    
    refine (H1.out _ (by first | exact md_keep hM ((Below.refl w.heap.size w).alloc (Nat.le_refl _) _))).mono ?_
    rintro e V1 ⟨rfl, hb1⟩
    have B1 := nby hb1
    have A1 := Lib.hid (row_call hb1 (heap_alloc_new _ _))
    clear hb1
    obtain ⟨A1_0, A1_1, A1_2⟩ := qw3 A1
    have zA1 := lt_of_heap A1.out
    go_simp
    go_wp2
    go_ret2
    exact ⟨rfl, B1.out⟩
end Go.Proofs.YtafecnlaodgmkaaGreatDoor
namespace Go.Proofs.YtafecnlaodgmkaaGreatDoor
set_option linter.unusedVariables false
set_option linter.unusedSimpArgs false
open Go.ChangeShapes Go.WideShapes Go.ChangeAt Go.RowKit
structure Stops (y n : Int) (K : Nat) : Prop where
  top : K ≤ 11
  on : ∀ j : Nat, j < K → mdI y ((j : Int) + 1) < n - cmN y j
  off : K = 11 ∨ n - cmN y K ≤ mdI y ((K : Int) + 1)
structure OoR (w : World) (a b c : Int) (wr : World) : Prop where
  fz : wr.heap[w.heap.size]? = some (.cells #[.int .i64 0, .int .i64 0, .int .i64 0] 95)
  fd : wr.heap[w.heap.size + 1]? = some (.cells #[.int .i64 a, .int .i64 b, .int .i64 c] 95)
  fb : Below w.heap.size w wr
def ooM (b : Nat) (wr : World) : Nat := (12 - intOf ((wr.cell? ⟨b, 1, none⟩).getD undef)).toNat
theorem ooM_eq {b : Nat} {wr : World} {a x c : Int} (h : wr.heap[b]? = some (.cells #[.int .i64 a, .int .i64 x, .int .i64 c] 95)) : ooM b wr = (12 - x).toNat := by
  unfold ooM
  have e : wr.cell? ⟨b, 1, none⟩ = some (.int .i64 x) := cry h
  rw [e]; rfl
set_option maxHeartbeats 6400000 in
set_option maxRecDepth 100000 in
theorem pOo_ok (y n : Int) (K : Nat) (hs : Stops y n K) (b1 : -9223372036854775808 ≤ n) (b2 : n < 9223372036854775808) (hc : ckC y ((K : Int) + 1) (n - cmN y K) = 0) (w : World) (hM : MD w) :
    Calls Tryz.prog 140 #[.int .i64 y, .int .i64 n] w fun e w' => e = .returned (.tuple #[.agg #[.int .i64 y, .int .i64 ((K : Int) + 1), .int .i64 (n - cmN y K)], .int .i64 0]) ∧ Below w.heap.size w w' := by
  replace hM := Lib.hid hM
  have X9 := pCheck_any y ((K : Int) + 1) (n - cmN y K)
  have HMD := Lib.hid (fun t w h => grow_of (pMonthDays_p y t w h))
  rw [hc] at X9
  have H9 := Lib.hid X9
  clear X9 hc
  have t11 := hs.top
  go_enter Tryz.func140, Tryz.ntmps140
  refine wp_shut ?_
  go_wp2_with fail
  
  obtain ⟨W0, hW0⟩ : ∃ W0, W0 = ((w.alloc (Obj.cells #[Value.int .i64 0, Value.int .i64 0, Value.int .i64 0] 95)).alloc (Obj.cells #[Value.int .i64 y, Value.int .i64 1, Value.int .i64 n] 95)) := ⟨_, rfl⟩
  have Z1 := Lib.hid (row_at (k' := w.heap.size) (by simp) (row_by hW0 (row_alloc (heap_alloc_new _ _) _)))
  have D1 := Lib.hid (row_at (k' := w.heap.size + 1) (by simp) (row_by hW0 (heap_alloc_new _ _)))
  have HB0 := Lib.hid (below_by hW0 (((Below.refl w.heap.size w).alloc (by simp <;> omega) _).alloc (by simp <;> omega) _))
  have HW0 := Lib.hid hW0
  clear hW0
  obtain ⟨Z1_0, Z1_1, Z1_2⟩ := qw3 Z1
  have Z1_f0 : W0.frozen? ⟨w.heap.size, 0, none⟩ = false := (by simp [World.frozen?, Z1.out])
  have Z1_f1 : W0.frozen? ⟨w.heap.size, 1, none⟩ = false := (by simp [World.frozen?, Z1.out])
  have Z1_f2 : W0.frozen? ⟨w.heap.size, 2, none⟩ = false := (by simp [World.frozen?, Z1.out])
  have zZ1 := lt_of_heap Z1.out
  obtain ⟨D1_0, D1_1, D1_2⟩ := qw3 D1
  have D1_f0 : W0.frozen? ⟨w.heap.size + 1, 0, none⟩ = false := (by simp [World.frozen?, D1.out])
  have D1_f1 : W0.frozen? ⟨w.heap.size + 1, 1, none⟩ = false := (by simp [World.frozen?, D1.out])
  have D1_f2 : W0.frozen? ⟨w.heap.size + 1, 2, none⟩ = false := (by simp [World.frozen?, D1.out])
  have zD1 := lt_of_heap D1.out
  try rw [← HW0.out]
  have HR : Hid (OoR w y 1 n W0) := Lib.hid ⟨Z1.out, D1.out, HB0.out⟩
  clear HW0 Z1_0 Z1_1 Z1_2 zZ1 D1_0 D1_1 D1_2 D1_f0 D1_f1 D1_f2 zD1 Z1 D1 HB0
  go_loopw [] (fun wr => ∃ k : Nat, k ≤ K ∧ OoR w y ((k : Int) + 1) (n - cmN y k) wr) (fun wr => ooM (w.heap.size + 1) wr)
  case atStart => exact ⟨0, Nat.zero_le _, by rw [show n - cmN y 0 = n from Int.sub_zero n]; exact HR.out⟩
  case round =>
    obtain ⟨k, hk, hX⟩ := hrel
    clear HR
    obtain ⟨V20, rfl⟩ : ∃ V, V = wr := ⟨_, rfl⟩
    have Z1 := Lib.hid hX.fz
    have D1 := Lib.hid hX.fd
    have B20 := Lib.hid hX.fb
    have hm0 := Lib.hid (ooM_eq hX.fd)
    clear hX
    have c1 := cmN_bd y k
    have c2 := mdI_le y ((k : Int) + 1)
    have c3 : Hid (cmN y (k + 1) = cmN y k + mdI y ((k : Int) + 1)) := Lib.hid rfl
    have H1 := Lib.hid (HMD.out ((k : Int) + 1))
    have neZD : ¬ (w.heap.size = w.heap.size + 1) := by omega
    have neDZ : ¬ (w.heap.size + 1 = w.heap.size) := by omega
    have hk12 : (k : Int) ≤ 12 := by omega
    clear HMD
    by_cases hlt : k < K
    · have on := hs.on k hlt
      have k11 : (k : Int) + 1 < 12 := by omega
      have d28 := mdI_ge y ((k : Int) + 1) ⟨by omega, by omega⟩
      have hD1 : Hid (n - cmN y (k + 1) = n - cmN y k - mdI y ((k : Int) + 1)) := Lib.hid (by rw [c3.out]; omega)
      have bD : n - cmN y k < 9223372036854775808 := by omega
      clear c3 hs H9 c1
      generalize mdI y ((k : Int) + 1) = M at *
      generalize n - cmN y k = D at *
      clear b1 b2
      
      have Z1_f0 : V20.frozen? ⟨w.heap.size, 0, none⟩ = false := frx Z1
      have Z1_f1 : V20.frozen? ⟨w.heap.size, 1, none⟩ = false := frx Z1
      have Z1_f2 : V20.frozen? ⟨w.heap.size, 2, none⟩ = false := frx Z1
      obtain ⟨Z1_0, Z1_1, Z1_2⟩ := qw3 Z1
      have zZ1 := lt_of_heap Z1.out
      have D1_f0 : V20.frozen? ⟨w.heap.size + 1, 0, none⟩ = false := frx D1
      have D1_f1 : V20.frozen? ⟨w.heap.size + 1, 1, none⟩ = false := frx D1
      have D1_f2 : V20.frozen? ⟨w.heap.size + 1, 2, none⟩ = false := frx D1
      obtain ⟨D1_0, D1_1, D1_2⟩ := qw3 D1
      have zD1 := lt_of_heap D1.out
      go_wp2_with fail
      clear Z1_f0 Z1_f1 Z1_f2 Z1_0 Z1_1 Z1_2 zZ1 D1_f0 D1_f1 D1_f2 D1_0 D1_1 D1_2 zD1
      obtain ⟨W0, hW0⟩ : ∃ W0, W0 = V20 := ⟨_, rfl⟩
      replace Z1 := Lib.hid (row_by hW0 Z1.out)
      replace D1 := Lib.hid (row_by hW0 D1.out)
      have HB0 := Lib.hid (below_by hW0 (B20.out))
      have HW0 := Lib.hid hW0
      clear hW0
      obtain ⟨Z1_0, Z1_1, Z1_2⟩ := qw3 Z1
      have Z1_f0 : W0.frozen? ⟨w.heap.size, 0, none⟩ = false := (by simp [World.frozen?, Z1.out])
      have Z1_f1 : W0.frozen? ⟨w.heap.size, 1, none⟩ = false := (by simp [World.frozen?, Z1.out])
      have Z1_f2 : W0.frozen? ⟨w.heap.size, 2, none⟩ = false := (by simp [World.frozen?, Z1.out])
      have zZ1 := lt_of_heap Z1.out
      obtain ⟨D1_0, D1_1, D1_2⟩ := qw3 D1
      have D1_f0 : W0.frozen? ⟨w.heap.size + 1, 0, none⟩ = false := (by simp [World.frozen?, D1.out])
      have D1_f1 : W0.frozen? ⟨w.heap.size + 1, 1, none⟩ = false := (by simp [World.frozen?, D1.out])
      have D1_f2 : W0.frozen? ⟨w.heap.size + 1, 2, none⟩ = false := (by simp [World.frozen?, D1.out])
      have zD1 := lt_of_heap D1.out
      try rw [← HW0.out]
      go_cut [22] from 11 to 34 (fun s22 wx => s22 = .bool true ∧ Below W0.heap.size W0 wx)
      case first =>
        go_region_held3 (fun w' => Below W0.heap.size W0 w' ∧ w'.cell? ⟨w.heap.size + 1, 0, none⟩ = some (.int .i64 y) ∧ w'.cell? ⟨w.heap.size + 1, 1, none⟩ = some (.int .i64 ((k : Int) + 1)) ∧ w'.cell? ⟨w.heap.size + 1, 2, none⟩ = some (.int .i64 D))
    (first
      | ((try go_split_ands); refine ⟨(Below.refl _ _).drew, ?_, ?_, ?_⟩ <;> first | assumption | (rw [World.cell?_drew]; assumption))
      | ((try go_split_ands); refine ⟨keepS (W0 := W0) ?_ hb1, cellS (W0 := W0) ?_ hb1 ?_ ?_, cellS (W0 := W0) ?_ hb1 ?_ ?_, cellS (W0 := W0) ?_ hb1 ?_ ?_⟩ <;> first | assumption | omega)
      | ((try go_split_ands); refine ⟨keepA (W0 := W0) ?_ _, cellA (W0 := W0) ?_ _ ?_ ?_, cellA (W0 := W0) ?_ _ ?_ ?_, cellA (W0 := W0) ?_ _ ?_ ?_⟩ <;> first | assumption | omega)
      | ((try go_split_ands); refine ⟨keepAd (W0 := W0) ?_ _, cellAd (W0 := W0) ?_ _ ?_ ?_, cellAd (W0 := W0) ?_ _ ?_ ?_, cellAd (W0 := W0) ?_ _ ?_ ?_⟩ <;> first | assumption | omega | exact Below.refl _ _)
      | ((try go_split_ands); (with_reducible refine ⟨keep3 (W0 := W0) ?_ ?_ _ _ _, cell3 (W0 := W0) ?_ _ _ _ ?_ ?_, cell3 (W0 := W0) ?_ _ _ _ ?_ ?_, cell3 (W0 := W0) ?_ _ _ _ ?_ ?_⟩) <;> first | assumption | omega | exact Nat.le_refl _)
      | ((try go_split_ands); refine ⟨keep2 (W0 := W0) ?_ ?_ _ _, cell2 (W0 := W0) ?_ _ _ ?_ ?_, cell2 (W0 := W0) ?_ _ _ ?_ ?_, cell2 (W0 := W0) ?_ _ _ ?_ ?_⟩ <;> first | assumption | omega | exact Nat.le_refl _)
      | ((try go_split_ands); refine ⟨keepZ (W0 := W0) ?_ ?_ _, cellZ (W0 := W0) ?_ _ ?_ ?_, cellZ (W0 := W0) ?_ _ ?_ ?_, cellZ (W0 := W0) ?_ _ ?_ ?_⟩ <;> first | assumption | omega | exact Nat.le_refl _ | exact ⟨_, by assumption⟩))
    (first | (go_at_call 75; (with_reducible refine (H1.out _ ?_).mono ?_); (focus (refine md_keep (Lib.hid (md_keep hM HB0.out)) ?_; first | assumption | (with_reducible exact (Below.refl _ _).drew) | (go_split_ands; done) | ((try go_split_ands); assumption))); rintro e w1 ⟨rfl, hb1⟩; (try go_split_ands); have hge : W0.heap.size ≤ w1.heap.size := (by first | (refine (keepS (W0 := W0) ?_ hb1).size; assumption) | exact (hb1.size : W0.heap.size ≤ w1.heap.size)); (try have hrow := row_call hb1 hrow); (try have hrow := row_new hb1); (try have hrow := row_newd hb1); have hl1 := lt_below hb1; obtain ⟨hc1, hf1⟩ := bcell hb1; (try (have hrc := row_cellA hrow; clear hc1 hf1)); (try have hrf := row_frozA hrow)) | (go_at_call 75; refine (H1.out _ (by first | exact md_keep (Lib.hid (md_keep hM HB0.out)) (by assumption) | exact md_keep (Lib.hid (md_keep hM HB0.out)) (by (try go_split_ands); assumption) | exact md_keep (Lib.hid (md_keep hM HB0.out)) (Below.refl _ _).drew)).mono ?_; rintro e w1 ⟨rfl, hb1⟩; (try go_split_ands); have hge : W0.heap.size ≤ w1.heap.size := (by first | (refine (keepS (W0 := W0) ?_ hb1).size; assumption) | exact (hb1.size : W0.heap.size ≤ w1.heap.size)); (try have hrow := row_call hb1 hrow); (try have hrow := row_new hb1); (try have hrow := row_newd hb1); have hl1 := lt_below hb1; obtain ⟨hc1, hf1⟩ := bcell hb1; (try (have hrc := row_cellA hrow; clear hc1 hf1)); (try have hrf := row_frozA hrow)))
        all_goals (try go_split_ands)
        all_goals (go_wp2_with fail; go_meet; refine ⟨rfl, ?_⟩)
        all_goals first | (with_reducible assumption) | (with_reducible exact heap_alloc_new _ _) | (with_reducible exact row_set3 (by assumption) _ _ _) | assumption | exact heap_alloc_new _ _ | exact row_set (by assumption) _ _
      case rest =>
        obtain ⟨rfl, hB⟩ := hcut
        obtain ⟨V21, rfl⟩ : ∃ V, V = wc := ⟨_, rfl⟩
        clear Z1_0 Z1_1 Z1_2 Z1_f0 Z1_f1 Z1_f2 zZ1 D1_0 D1_1 D1_2 D1_f0 D1_f1 D1_f2 zD1
        replace Z1 := Lib.hid (row_call hB Z1.out)
        replace D1 := Lib.hid (row_call hB D1.out)
        have B21 := Lib.hid (HB0.out.trans (hB.mono HB0.out.size))
        clear hB
        obtain ⟨Z1_0, Z1_1, Z1_2⟩ := qw3 Z1
        have Z1_f0 : V21.frozen? ⟨w.heap.size, 0, none⟩ = false := (by simp [World.frozen?, Z1.out])
        have Z1_f1 : V21.frozen? ⟨w.heap.size, 1, none⟩ = false := (by simp [World.frozen?, Z1.out])
        have Z1_f2 : V21.frozen? ⟨w.heap.size, 2, none⟩ = false := (by simp [World.frozen?, Z1.out])
        have zZ1 := lt_of_heap Z1.out
        obtain ⟨D1_0, D1_1, D1_2⟩ := qw3 D1
        have D1_f0 : V21.frozen? ⟨w.heap.size + 1, 0, none⟩ = false := (by simp [World.frozen?, D1.out])
        have D1_f1 : V21.frozen? ⟨w.heap.size + 1, 1, none⟩ = false := (by simp [World.frozen?, D1.out])
        have D1_f2 : V21.frozen? ⟨w.heap.size + 1, 2, none⟩ = false := (by simp [World.frozen?, D1.out])
        have zD1 := lt_of_heap D1.out
        go_wp2_with fail
        clear Z1_0 Z1_1 Z1_2 Z1_f0 Z1_f1 Z1_f2 zZ1 D1_0 D1_1 D1_2 D1_f0 D1_f1 D1_f2 zD1
        obtain ⟨W0, hW0⟩ : ∃ W0, W0 = V21 := ⟨_, rfl⟩
        replace Z1 := Lib.hid (row_by hW0 Z1.out)
        replace D1 := Lib.hid (row_by hW0 D1.out)
        have HB0 := Lib.hid (below_by hW0 (B21.out))
        have HW0 := Lib.hid hW0
        clear hW0
        obtain ⟨Z1_0, Z1_1, Z1_2⟩ := qw3 Z1
        have Z1_f0 : W0.frozen? ⟨w.heap.size, 0, none⟩ = false := (by simp [World.frozen?, Z1.out])
        have Z1_f1 : W0.frozen? ⟨w.heap.size, 1, none⟩ = false := (by simp [World.frozen?, Z1.out])
        have Z1_f2 : W0.frozen? ⟨w.heap.size, 2, none⟩ = false := (by simp [World.frozen?, Z1.out])
        have zZ1 := lt_of_heap Z1.out
        obtain ⟨D1_0, D1_1, D1_2⟩ := qw3 D1
        have D1_f0 : W0.frozen? ⟨w.heap.size + 1, 0, none⟩ = false := (by simp [World.frozen?, D1.out])
        have D1_f1 : W0.frozen? ⟨w.heap.size + 1, 1, none⟩ = false := (by simp [World.frozen?, D1.out])
        have D1_f2 : W0.frozen? ⟨w.heap.size + 1, 2, none⟩ = false := (by simp [World.frozen?, D1.out])
        have zD1 := lt_of_heap D1.out
        try go_simp
        rw [← HW0.out]
        go_region_with (first | (go_at_call 75; refine (H1.out _ (by first | exact md_keep (Lib.hid (md_keep hM HB0.out)) (Below.refl _ _).drew | exact md_keep (Lib.hid (md_keep hM HB0.out)) (Below.refl _ _) | exact md_keep (Lib.hid (md_keep hM HB0.out)) (by assumption))).mono ?_; rintro e V22 ⟨rfl, hb22⟩; replace hb22 := (Below.refl W0.heap.size W0).drew.trans hb22; clear Z1_0 Z1_1 Z1_2 Z1_f0 Z1_f1 Z1_f2 zZ1 D1_0 D1_1 D1_2 D1_f0 D1_f1 D1_f2 zD1; have B22 := Lib.hid (HB0.out.trans (hb22.mono HB0.out.size)); replace Z1 := Lib.hid (row_call hb22 Z1.out); replace D1 := Lib.hid (row_call hb22 D1.out); clear hb22; have Z1_0 : V22.cell? ⟨w.heap.size, 0, none⟩ = some (.int .i64 0) := crx Z1; have Z1_1 : V22.cell? ⟨w.heap.size, 1, none⟩ = some (.int .i64 0) := crx Z1; have Z1_2 : V22.cell? ⟨w.heap.size, 2, none⟩ = some (.int .i64 0) := crx Z1; have Z1_f0 : V22.frozen? ⟨w.heap.size, 0, none⟩ = false := (by simp [World.frozen?, Z1.out]); have Z1_f1 : V22.frozen? ⟨w.heap.size, 1, none⟩ = false := (by simp [World.frozen?, Z1.out]); have Z1_f2 : V22.frozen? ⟨w.heap.size, 2, none⟩ = false := (by simp [World.frozen?, Z1.out]); have zZ1 := lt_of_heap Z1.out; have D1_0 : V22.cell? ⟨w.heap.size + 1, 0, none⟩ = some (.int .i64 y) := crx D1; have D1_1 : V22.cell? ⟨w.heap.size + 1, 1, none⟩ = some (.int .i64 ((k : Int) + 1)) := crx D1; have D1_2 : V22.cell? ⟨w.heap.size + 1, 2, none⟩ = some (.int .i64 D) := crx D1; have D1_f0 : V22.frozen? ⟨w.heap.size + 1, 0, none⟩ = false := (by simp [World.frozen?, D1.out]); have D1_f1 : V22.frozen? ⟨w.heap.size + 1, 1, none⟩ = false := (by simp [World.frozen?, D1.out]); have D1_f2 : V22.frozen? ⟨w.heap.size + 1, 2, none⟩ = false := (by simp [World.frozen?, D1.out]); have zD1 := lt_of_heap D1.out))
        all_goals
          go_wp2
          exact ⟨⟨k + 1, by omega, ⟨row_other1 neZD (row_other1 neZD Z1.out 2 _) 1 _, by rw [hD1.out, show ((k + 1 : Nat) : Int) + 1 = (k : Int) + 1 + 1 by omega]; exact row_set1 (row_set1 D1.out 2 _) 1 _, keep1 (keep1 B22.out (by omega) 2 _) (by omega) 1 _⟩⟩, by rw [hm0.out, ooM_eq (row_set1 (row_set1 D1.out 2 _) 1 _)]; omega⟩
    · obtain rfl : k = K := by omega
      have hoff := hs.off
      clear hs c3
      generalize hMM : mdI y ((k : Int) + 1) = M at *
      generalize hD : n - cmN y k = D at *
      have hD2 := Lib.hid hD
      clear hMM hD c1 b1 b2
      generalize hKM : (k : Int) + 1 = KM at *
      have hK2 := Lib.hid hKM
      
      have Z1_f0 : V20.frozen? ⟨w.heap.size, 0, none⟩ = false := frx Z1
      have Z1_f1 : V20.frozen? ⟨w.heap.size, 1, none⟩ = false := frx Z1
      have Z1_f2 : V20.frozen? ⟨w.heap.size, 2, none⟩ = false := frx Z1
      obtain ⟨Z1_0, Z1_1, Z1_2⟩ := qw3 Z1
      have zZ1 := lt_of_heap Z1.out
      have D1_f0 : V20.frozen? ⟨w.heap.size + 1, 0, none⟩ = false := frx D1
      have D1_f1 : V20.frozen? ⟨w.heap.size + 1, 1, none⟩ = false := frx D1
      have D1_f2 : V20.frozen? ⟨w.heap.size + 1, 2, none⟩ = false := frx D1
      obtain ⟨D1_0, D1_1, D1_2⟩ := qw3 D1
      have zD1 := lt_of_heap D1.out
      
      rcases hoff with h11 | hoff
      · have g1 : decide (KM < 12) = false := decide_eq_false (by omega)
        clear H1 hKM
        go_wp2_with fail
        obtain ⟨W0, hW0⟩ : ∃ W0, W0 = V20 := ⟨_, rfl⟩
        replace Z1 := Lib.hid (row_by hW0 Z1.out)
        replace D1 := Lib.hid (row_by hW0 D1.out)
        clear Z1_f0 Z1_f1 Z1_f2 Z1_0 Z1_1 Z1_2 zZ1 D1_f0 D1_f1 D1_f2 D1_0 D1_1 D1_2 zD1
        obtain ⟨Z1_0, Z1_1, Z1_2⟩ := qw3 Z1
        have zZ1 := lt_of_heap Z1.out
        obtain ⟨D1_0, D1_1, D1_2⟩ := qw3 D1
        have zD1 := lt_of_heap D1.out
        have HB0 := Lib.hid (below_by hW0 (B20.out))
        have zW0 := HB0.out.size
        have HW0 := Lib.hid hW0
        clear hW0
        try go_simp
        rw [← HW0.out]
        have hk0 : ∀ w2, Below W0.heap.size W0 w2 → w2.cell? ⟨w.heap.size, 0, none⟩ = some (.int .i64 0) := fun w2 hb => (by rw [hb.cell (p := ⟨w.heap.size, 0, none⟩) (by assumption)]; assumption)
        have hk1 : ∀ w2, Below W0.heap.size W0 w2 → w2.cell? ⟨w.heap.size, 1, none⟩ = some (.int .i64 0) := fun w2 hb => (by rw [hb.cell (p := ⟨w.heap.size, 1, none⟩) (by assumption)]; assumption)
        have hk2 : ∀ w2, Below W0.heap.size W0 w2 → w2.cell? ⟨w.heap.size, 2, none⟩ = some (.int .i64 0) := fun w2 hb => (by rw [hb.cell (p := ⟨w.heap.size, 2, none⟩) (by assumption)]; assumption)
        have hk3 : ∀ w2, Below W0.heap.size W0 w2 → w2.cell? ⟨w.heap.size + 1, 0, none⟩ = some (.int .i64 y) := fun w2 hb => (by rw [hb.cell (p := ⟨w.heap.size + 1, 0, none⟩) (by assumption)]; assumption)
        have hk4 : ∀ w2, Below W0.heap.size W0 w2 → w2.cell? ⟨w.heap.size + 1, 1, none⟩ = some (.int .i64 KM) := fun w2 hb => (by rw [hb.cell (p := ⟨w.heap.size + 1, 1, none⟩) (by assumption)]; assumption)
        have hk5 : ∀ w2, Below W0.heap.size W0 w2 → w2.cell? ⟨w.heap.size + 1, 2, none⟩ = some (.int .i64 D) := fun w2 hb => (by rw [hb.cell (p := ⟨w.heap.size + 1, 2, none⟩) (by assumption)]; assumption)
        clear Z1_0 Z1_1 Z1_2 D1_0 D1_1 D1_2
        refine region_plan (S := fun w2 => Below W0.heap.size W0 w2) [(0, true), (1, true), (2, true), (3, true), (4, true), (5, true), (6, true), (7, true), (8, true), (9, true), (10, true), (11, true)] (by as_aux_lemma => kernel_rfl) (by as_aux_lemma => kernel_rfl) (by as_aux_lemma => kernel_rfl) (by as_aux_lemma => kernel_rfl) (Below.refl W0.heap.size W0).drew ?_
        have Y0 := Lib.hid (Below.refl W0.heap.size W0).drew
        refine plan_yes (v := ?v1_3) (by simp only [List.getElem?_toArray, List.getElem?_cons_zero, List.getElem?_cons_succ]; exact rfl) (Or.inl ⟨by as_aux_lemma => rfl, ?hy1_3⟩) ?rest1_3
        case hy1_3 => (intro w2 hSw; (try dsimp only at hSw); go_simp; try with_reducible rfl)
        try simp only [Act.put, List.setIfInBounds_toArray, List.set_cons_zero, List.set_cons_succ]
        refine plan_yes (v := ?v2_3) (by simp only [List.getElem?_toArray, List.getElem?_cons_zero, List.getElem?_cons_succ]; exact rfl) (Or.inl ⟨by as_aux_lemma => rfl, ?hy2_3⟩) ?rest2_3
        case hy2_3 => (intro w2 hSw; (try dsimp only at hSw); go_simp; try with_reducible rfl)
        try simp only [Act.put, List.setIfInBounds_toArray, List.set_cons_zero, List.set_cons_succ]
        refine plan_yes (v := ?v3_3) (by simp only [List.getElem?_toArray, List.getElem?_cons_zero, List.getElem?_cons_succ]; exact rfl) (Or.inl ⟨by as_aux_lemma => rfl, ?hy3_3⟩) ?rest3_3
        case hy3_3 => (intro w2 hSw; (try dsimp only at hSw); go_simp; try with_reducible rfl)
        try simp only [Act.put, List.setIfInBounds_toArray, List.set_cons_zero, List.set_cons_succ]
        refine plan_yes (v := ?v4_3) (by simp only [List.getElem?_toArray, List.getElem?_cons_zero, List.getElem?_cons_succ]; exact rfl) (Or.inl ⟨by as_aux_lemma => rfl, ?hy4_3⟩) ?rest4_3
        case hy4_3 => (intro w2 hSw; (try dsimp only at hSw); go_simp; try with_reducible rfl)
        try simp only [Act.put, List.setIfInBounds_toArray, List.set_cons_zero, List.set_cons_succ]
        refine plan_yes (v := undef) (by simp only [List.getElem?_toArray, List.getElem?_cons_zero, List.getElem?_cons_succ]; exact rfl) (Or.inr ⟨by as_aux_lemma => rfl, rfl⟩) ?_
        try simp only [Act.put, List.setIfInBounds_toArray, List.set_cons_zero, List.set_cons_succ]
        refine plan_yes (v := undef) (by simp only [List.getElem?_toArray, List.getElem?_cons_zero, List.getElem?_cons_succ]; exact rfl) (Or.inr ⟨by as_aux_lemma => rfl, rfl⟩) ?_
        try simp only [Act.put, List.setIfInBounds_toArray, List.set_cons_zero, List.set_cons_succ]
        refine plan_yes (v := undef) (by simp only [List.getElem?_toArray, List.getElem?_cons_zero, List.getElem?_cons_succ]; exact rfl) (Or.inr ⟨by as_aux_lemma => rfl, rfl⟩) ?_
        try simp only [Act.put, List.setIfInBounds_toArray, List.set_cons_zero, List.set_cons_succ]
        refine plan_yes (v := undef) (by simp only [List.getElem?_toArray, List.getElem?_cons_zero, List.getElem?_cons_succ]; exact rfl) (Or.inr ⟨by as_aux_lemma => rfl, rfl⟩) ?_
        try simp only [Act.put, List.setIfInBounds_toArray, List.set_cons_zero, List.set_cons_succ]
        refine plan_yes (v := undef) (by simp only [List.getElem?_toArray, List.getElem?_cons_zero, List.getElem?_cons_succ]; exact rfl) (Or.inr ⟨by as_aux_lemma => rfl, rfl⟩) ?_
        try simp only [Act.put, List.setIfInBounds_toArray, List.set_cons_zero, List.set_cons_succ]
        refine plan_yes (v := undef) (by simp only [List.getElem?_toArray, List.getElem?_cons_zero, List.getElem?_cons_succ]; exact rfl) (Or.inr ⟨by as_aux_lemma => rfl, rfl⟩) ?_
        try simp only [Act.put, List.setIfInBounds_toArray, List.set_cons_zero, List.set_cons_succ]
        refine plan_yes (v := undef) (by simp only [List.getElem?_toArray, List.getElem?_cons_zero, List.getElem?_cons_succ]; exact rfl) (Or.inr ⟨by as_aux_lemma => rfl, rfl⟩) ?_
        try simp only [Act.put, List.setIfInBounds_toArray, List.set_cons_zero, List.set_cons_succ]
        refine plan_yes (v := ?v5_3) (by simp only [List.getElem?_toArray, List.getElem?_cons_zero, List.getElem?_cons_succ]; exact rfl) (Or.inl ⟨by as_aux_lemma => rfl, ?hy5_3⟩) ?rest5_3
        case hy5_3 => (intro w2 hSw; (try dsimp only at hSw); go_simp; try with_reducible rfl)
        try simp only [Act.put, List.setIfInBounds_toArray, List.set_cons_zero, List.set_cons_succ]
        refine plan_done (NoPanic.normal ?_)
        have B0 := Y0.out
        have BW := Lib.hid (HB0.out.trans (B0.mono zW0))
        replace Z1 := Lib.hid (row_call B0 Z1.out)
        replace D1 := Lib.hid (row_call B0 D1.out)
        have B21 := BW
        clear BW B0 hk0 hk1 hk2 hk3 hk4 hk5 zZ1 zD1 Y0
        generalize W0.drew = V21 at *
        obtain ⟨Z1_0, Z1_1, Z1_2⟩ := qw3 Z1
        have Z1_f0 : V21.frozen? ⟨w.heap.size, 0, none⟩ = false := (by simp [World.frozen?, Z1.out])
        have Z1_f1 : V21.frozen? ⟨w.heap.size, 1, none⟩ = false := (by simp [World.frozen?, Z1.out])
        have Z1_f2 : V21.frozen? ⟨w.heap.size, 2, none⟩ = false := (by simp [World.frozen?, Z1.out])
        have zZ1 := lt_of_heap Z1.out
        obtain ⟨D1_0, D1_1, D1_2⟩ := qw3 D1
        have D1_f0 : V21.frozen? ⟨w.heap.size + 1, 0, none⟩ = false := (by simp [World.frozen?, D1.out])
        have D1_f1 : V21.frozen? ⟨w.heap.size + 1, 1, none⟩ = false := (by simp [World.frozen?, D1.out])
        have D1_f2 : V21.frozen? ⟨w.heap.size + 1, 2, none⟩ = false := (by simp [World.frozen?, D1.out])
        have zD1 := lt_of_heap D1.out
        go_simp
        go_wp2_with fail
        refine (H9.out _ (by first | exact md_keep hM (B21.out) | exact md_keep hM ((B21.out).alloc (B21.out.size) _) | exact md_keep hM (((B21.out).alloc (B21.out.size) _).alloc (by have := B21.out.size; simp <;> omega) _) | exact md_keep hM ((((B21.out).alloc (B21.out.size) _).alloc (by have := B21.out.size; simp <;> omega) _).alloc (by have := B21.out.size; simp <;> omega) _))).mono ?_
        rintro e V22 ⟨rfl, hb22⟩
        clear Z1_0 Z1_f0 Z1_1 Z1_f1 Z1_2 Z1_f2 zZ1 D1_0 D1_f0 D1_1 D1_f1 D1_2 D1_f2 zD1
        have B22 : Hid (Below w.heap.size w V22) := nbx B21 hb22
        replace Z1 := rcx hb22 Z1
        replace D1 := rcx hb22 D1
        clear hb22
        obtain ⟨Z1_0, Z1_1, Z1_2⟩ := qw3 Z1
        have Z1_f0 : V22.frozen? ⟨w.heap.size, 0, none⟩ = false := by simp [World.frozen?, Z1.out]
        have Z1_f1 : V22.frozen? ⟨w.heap.size, 1, none⟩ = false := by simp [World.frozen?, Z1.out]
        have Z1_f2 : V22.frozen? ⟨w.heap.size, 2, none⟩ = false := by simp [World.frozen?, Z1.out]
        obtain ⟨D1_0, D1_1, D1_2⟩ := qw3 D1
        have D1_f0 : V22.frozen? ⟨w.heap.size + 1, 0, none⟩ = false := by simp [World.frozen?, D1.out]
        have D1_f1 : V22.frozen? ⟨w.heap.size + 1, 1, none⟩ = false := by simp [World.frozen?, D1.out]
        have D1_f2 : V22.frozen? ⟨w.heap.size + 1, 2, none⟩ = false := by simp [World.frozen?, D1.out]
        have zZ1 := lt_of_heap Z1.out
        have zD1 := lt_of_heap D1.out
        go_simp
        go_wp2
        refine shut_ret (v := .tuple #[.agg #[.int .i64 y, .int .i64 KM, .int .i64 D], .int .i64 0]) (by simp [results, Tryz.results140, go_sem, zZ1, Z1_0, Z1_1, Z1_2, D1_0, D1_1, D1_2]) rfl ⟨by rw [hK2.out, hD2.out], ?_⟩
        exact keep3 B22.out (Nat.le_refl _) _ _ _
      · by_cases h11 : k = 11
        · have g1 : decide (KM < 12) = false := decide_eq_false (by omega)
          clear H1 hKM
          
          go_wp2_with fail
          obtain ⟨W0, hW0⟩ : ∃ W0, W0 = V20 := ⟨_, rfl⟩
          replace Z1 := Lib.hid (row_by hW0 Z1.out)
          replace D1 := Lib.hid (row_by hW0 D1.out)
          clear Z1_f0 Z1_f1 Z1_f2 Z1_0 Z1_1 Z1_2 zZ1 D1_f0 D1_f1 D1_f2 D1_0 D1_1 D1_2 zD1
          obtain ⟨Z1_0, Z1_1, Z1_2⟩ := qw3 Z1
          have zZ1 := lt_of_heap Z1.out
          obtain ⟨D1_0, D1_1, D1_2⟩ := qw3 D1
          have zD1 := lt_of_heap D1.out
          have HB0 := Lib.hid (below_by hW0 (B20.out))
          have zW0 := HB0.out.size
          have HW0 := Lib.hid hW0
          clear hW0
          try go_simp
          rw [← HW0.out]
          have hk0 : ∀ w2, Below W0.heap.size W0 w2 → w2.cell? ⟨w.heap.size, 0, none⟩ = some (.int .i64 0) := fun w2 hb => (by rw [hb.cell (p := ⟨w.heap.size, 0, none⟩) (by assumption)]; assumption)
          have hk1 : ∀ w2, Below W0.heap.size W0 w2 → w2.cell? ⟨w.heap.size, 1, none⟩ = some (.int .i64 0) := fun w2 hb => (by rw [hb.cell (p := ⟨w.heap.size, 1, none⟩) (by assumption)]; assumption)
          have hk2 : ∀ w2, Below W0.heap.size W0 w2 → w2.cell? ⟨w.heap.size, 2, none⟩ = some (.int .i64 0) := fun w2 hb => (by rw [hb.cell (p := ⟨w.heap.size, 2, none⟩) (by assumption)]; assumption)
          have hk3 : ∀ w2, Below W0.heap.size W0 w2 → w2.cell? ⟨w.heap.size + 1, 0, none⟩ = some (.int .i64 y) := fun w2 hb => (by rw [hb.cell (p := ⟨w.heap.size + 1, 0, none⟩) (by assumption)]; assumption)
          have hk4 : ∀ w2, Below W0.heap.size W0 w2 → w2.cell? ⟨w.heap.size + 1, 1, none⟩ = some (.int .i64 KM) := fun w2 hb => (by rw [hb.cell (p := ⟨w.heap.size + 1, 1, none⟩) (by assumption)]; assumption)
          have hk5 : ∀ w2, Below W0.heap.size W0 w2 → w2.cell? ⟨w.heap.size + 1, 2, none⟩ = some (.int .i64 D) := fun w2 hb => (by rw [hb.cell (p := ⟨w.heap.size + 1, 2, none⟩) (by assumption)]; assumption)
          clear Z1_0 Z1_1 Z1_2 D1_0 D1_1 D1_2
          refine region_plan (S := fun w2 => Below W0.heap.size W0 w2) [(0, true), (1, true), (2, true), (3, true), (4, true), (5, true), (6, true), (7, true), (8, true), (9, true), (10, true), (11, true)] (by as_aux_lemma => kernel_rfl) (by as_aux_lemma => kernel_rfl) (by as_aux_lemma => kernel_rfl) (by as_aux_lemma => kernel_rfl) (Below.refl W0.heap.size W0).drew ?_
          have Y0 := Lib.hid (Below.refl W0.heap.size W0).drew
          refine plan_yes (v := ?v1_4) (by simp only [List.getElem?_toArray, List.getElem?_cons_zero, List.getElem?_cons_succ]; exact rfl) (Or.inl ⟨by as_aux_lemma => rfl, ?hy1_4⟩) ?rest1_4
          case hy1_4 => (intro w2 hSw; (try dsimp only at hSw); go_simp; try with_reducible rfl)
          try simp only [Act.put, List.setIfInBounds_toArray, List.set_cons_zero, List.set_cons_succ]
          refine plan_yes (v := ?v2_4) (by simp only [List.getElem?_toArray, List.getElem?_cons_zero, List.getElem?_cons_succ]; exact rfl) (Or.inl ⟨by as_aux_lemma => rfl, ?hy2_4⟩) ?rest2_4
          case hy2_4 => (intro w2 hSw; (try dsimp only at hSw); go_simp; try with_reducible rfl)
          try simp only [Act.put, List.setIfInBounds_toArray, List.set_cons_zero, List.set_cons_succ]
          refine plan_yes (v := ?v3_4) (by simp only [List.getElem?_toArray, List.getElem?_cons_zero, List.getElem?_cons_succ]; exact rfl) (Or.inl ⟨by as_aux_lemma => rfl, ?hy3_4⟩) ?rest3_4
          case hy3_4 => (intro w2 hSw; (try dsimp only at hSw); go_simp; try with_reducible rfl)
          try simp only [Act.put, List.setIfInBounds_toArray, List.set_cons_zero, List.set_cons_succ]
          refine plan_yes (v := ?v4_4) (by simp only [List.getElem?_toArray, List.getElem?_cons_zero, List.getElem?_cons_succ]; exact rfl) (Or.inl ⟨by as_aux_lemma => rfl, ?hy4_4⟩) ?rest4_4
          case hy4_4 => (intro w2 hSw; (try dsimp only at hSw); go_simp; try with_reducible rfl)
          try simp only [Act.put, List.setIfInBounds_toArray, List.set_cons_zero, List.set_cons_succ]
          refine plan_yes (v := undef) (by simp only [List.getElem?_toArray, List.getElem?_cons_zero, List.getElem?_cons_succ]; exact rfl) (Or.inr ⟨by as_aux_lemma => rfl, rfl⟩) ?_
          try simp only [Act.put, List.setIfInBounds_toArray, List.set_cons_zero, List.set_cons_succ]
          refine plan_yes (v := undef) (by simp only [List.getElem?_toArray, List.getElem?_cons_zero, List.getElem?_cons_succ]; exact rfl) (Or.inr ⟨by as_aux_lemma => rfl, rfl⟩) ?_
          try simp only [Act.put, List.setIfInBounds_toArray, List.set_cons_zero, List.set_cons_succ]
          refine plan_yes (v := undef) (by simp only [List.getElem?_toArray, List.getElem?_cons_zero, List.getElem?_cons_succ]; exact rfl) (Or.inr ⟨by as_aux_lemma => rfl, rfl⟩) ?_
          try simp only [Act.put, List.setIfInBounds_toArray, List.set_cons_zero, List.set_cons_succ]
          refine plan_yes (v := undef) (by simp only [List.getElem?_toArray, List.getElem?_cons_zero, List.getElem?_cons_succ]; exact rfl) (Or.inr ⟨by as_aux_lemma => rfl, rfl⟩) ?_
          try simp only [Act.put, List.setIfInBounds_toArray, List.set_cons_zero, List.set_cons_succ]
          refine plan_yes (v := undef) (by simp only [List.getElem?_toArray, List.getElem?_cons_zero, List.getElem?_cons_succ]; exact rfl) (Or.inr ⟨by as_aux_lemma => rfl, rfl⟩) ?_
          try simp only [Act.put, List.setIfInBounds_toArray, List.set_cons_zero, List.set_cons_succ]
          refine plan_yes (v := undef) (by simp only [List.getElem?_toArray, List.getElem?_cons_zero, List.getElem?_cons_succ]; exact rfl) (Or.inr ⟨by as_aux_lemma => rfl, rfl⟩) ?_
          try simp only [Act.put, List.setIfInBounds_toArray, List.set_cons_zero, List.set_cons_succ]
          refine plan_yes (v := undef) (by simp only [List.getElem?_toArray, List.getElem?_cons_zero, List.getElem?_cons_succ]; exact rfl) (Or.inr ⟨by as_aux_lemma => rfl, rfl⟩) ?_
          try simp only [Act.put, List.setIfInBounds_toArray, List.set_cons_zero, List.set_cons_succ]
          refine plan_yes (v := ?v5_4) (by simp only [List.getElem?_toArray, List.getElem?_cons_zero, List.getElem?_cons_succ]; exact rfl) (Or.inl ⟨by as_aux_lemma => rfl, ?hy5_4⟩) ?rest5_4
          case hy5_4 => (intro w2 hSw; (try dsimp only at hSw); go_simp; try with_reducible rfl)
          try simp only [Act.put, List.setIfInBounds_toArray, List.set_cons_zero, List.set_cons_succ]
          refine plan_done (NoPanic.normal ?_)
          have B0 := Y0.out
          have BW := Lib.hid (HB0.out.trans (B0.mono zW0))
          replace Z1 := Lib.hid (row_call B0 Z1.out)
          replace D1 := Lib.hid (row_call B0 D1.out)
          have B21 := BW
          clear BW B0 hk0 hk1 hk2 hk3 hk4 hk5 zZ1 zD1 Y0
          generalize W0.drew = V21 at *
          obtain ⟨Z1_0, Z1_1, Z1_2⟩ := qw3 Z1
          have Z1_f0 : V21.frozen? ⟨w.heap.size, 0, none⟩ = false := (by simp [World.frozen?, Z1.out])
          have Z1_f1 : V21.frozen? ⟨w.heap.size, 1, none⟩ = false := (by simp [World.frozen?, Z1.out])
          have Z1_f2 : V21.frozen? ⟨w.heap.size, 2, none⟩ = false := (by simp [World.frozen?, Z1.out])
          have zZ1 := lt_of_heap Z1.out
          obtain ⟨D1_0, D1_1, D1_2⟩ := qw3 D1
          have D1_f0 : V21.frozen? ⟨w.heap.size + 1, 0, none⟩ = false := (by simp [World.frozen?, D1.out])
          have D1_f1 : V21.frozen? ⟨w.heap.size + 1, 1, none⟩ = false := (by simp [World.frozen?, D1.out])
          have D1_f2 : V21.frozen? ⟨w.heap.size + 1, 2, none⟩ = false := (by simp [World.frozen?, D1.out])
          have zD1 := lt_of_heap D1.out
          go_simp
          go_wp2_with fail
          refine (H9.out _ (by first | exact md_keep hM (B21.out) | exact md_keep hM ((B21.out).alloc (B21.out.size) _) | exact md_keep hM (((B21.out).alloc (B21.out.size) _).alloc (by have := B21.out.size; simp <;> omega) _) | exact md_keep hM ((((B21.out).alloc (B21.out.size) _).alloc (by have := B21.out.size; simp <;> omega) _).alloc (by have := B21.out.size; simp <;> omega) _))).mono ?_
          rintro e V22 ⟨rfl, hb22⟩
          clear Z1_0 Z1_f0 Z1_1 Z1_f1 Z1_2 Z1_f2 zZ1 D1_0 D1_f0 D1_1 D1_f1 D1_2 D1_f2 zD1
          have B22 : Hid (Below w.heap.size w V22) := nbx B21 hb22
          replace Z1 := rcx hb22 Z1
          replace D1 := rcx hb22 D1
          clear hb22
          obtain ⟨Z1_0, Z1_1, Z1_2⟩ := qw3 Z1
          have Z1_f0 : V22.frozen? ⟨w.heap.size, 0, none⟩ = false := by simp [World.frozen?, Z1.out]
          have Z1_f1 : V22.frozen? ⟨w.heap.size, 1, none⟩ = false := by simp [World.frozen?, Z1.out]
          have Z1_f2 : V22.frozen? ⟨w.heap.size, 2, none⟩ = false := by simp [World.frozen?, Z1.out]
          obtain ⟨D1_0, D1_1, D1_2⟩ := qw3 D1
          have D1_f0 : V22.frozen? ⟨w.heap.size + 1, 0, none⟩ = false := by simp [World.frozen?, D1.out]
          have D1_f1 : V22.frozen? ⟨w.heap.size + 1, 1, none⟩ = false := by simp [World.frozen?, D1.out]
          have D1_f2 : V22.frozen? ⟨w.heap.size + 1, 2, none⟩ = false := by simp [World.frozen?, D1.out]
          have zZ1 := lt_of_heap Z1.out
          have zD1 := lt_of_heap D1.out
          go_simp
          go_wp2
          refine shut_ret (v := .tuple #[.agg #[.int .i64 y, .int .i64 KM, .int .i64 D], .int .i64 0]) (by simp [results, Tryz.results140, go_sem, zZ1, Z1_0, Z1_1, Z1_2, D1_0, D1_1, D1_2]) rfl ⟨by rw [hK2.out, hD2.out], ?_⟩
          exact keep3 B22.out (Nat.le_refl _) _ _ _
        · have g1 : KM < 12 := by omega
          have g2 : decide (M < D) = false := decide_eq_false (by omega)
          clear hKM
          
          go_wp2_with fail
          clear Z1_f0 Z1_f1 Z1_f2 Z1_0 Z1_1 Z1_2 zZ1 D1_f0 D1_f1 D1_f2 D1_0 D1_1 D1_2 zD1
          obtain ⟨W0, hW0⟩ : ∃ W0, W0 = V20 := ⟨_, rfl⟩
          replace Z1 := Lib.hid (row_by hW0 Z1.out)
          replace D1 := Lib.hid (row_by hW0 D1.out)
          have HB0 := Lib.hid (below_by hW0 (B20.out))
          have HW0 := Lib.hid hW0
          clear hW0
          obtain ⟨Z1_0, Z1_1, Z1_2⟩ := qw3 Z1
          have Z1_f0 : W0.frozen? ⟨w.heap.size, 0, none⟩ = false := (by simp [World.frozen?, Z1.out])
          have Z1_f1 : W0.frozen? ⟨w.heap.size, 1, none⟩ = false := (by simp [World.frozen?, Z1.out])
          have Z1_f2 : W0.frozen? ⟨w.heap.size, 2, none⟩ = false := (by simp [World.frozen?, Z1.out])
          have zZ1 := lt_of_heap Z1.out
          obtain ⟨D1_0, D1_1, D1_2⟩ := qw3 D1
          have D1_f0 : W0.frozen? ⟨w.heap.size + 1, 0, none⟩ = false := (by simp [World.frozen?, D1.out])
          have D1_f1 : W0.frozen? ⟨w.heap.size + 1, 1, none⟩ = false := (by simp [World.frozen?, D1.out])
          have D1_f2 : W0.frozen? ⟨w.heap.size + 1, 2, none⟩ = false := (by simp [World.frozen?, D1.out])
          have zD1 := lt_of_heap D1.out
          try rw [← HW0.out]
          go_cut [22] from 11 to 34 (fun s22 wx => s22 = .bool false ∧ Below W0.heap.size W0 wx)
          case first =>
            go_region_held3 (fun w' => Below W0.heap.size W0 w' ∧ w'.cell? ⟨w.heap.size + 1, 0, none⟩ = some (.int .i64 y) ∧ w'.cell? ⟨w.heap.size + 1, 1, none⟩ = some (.int .i64 KM) ∧ w'.cell? ⟨w.heap.size + 1, 2, none⟩ = some (.int .i64 D))
    (first
      | ((try go_split_ands); refine ⟨(Below.refl _ _).drew, ?_, ?_, ?_⟩ <;> first | assumption | (rw [World.cell?_drew]; assumption))
      | ((try go_split_ands); refine ⟨keepS (W0 := W0) ?_ hb1, cellS (W0 := W0) ?_ hb1 ?_ ?_, cellS (W0 := W0) ?_ hb1 ?_ ?_, cellS (W0 := W0) ?_ hb1 ?_ ?_⟩ <;> first | assumption | omega)
      | ((try go_split_ands); refine ⟨keepA (W0 := W0) ?_ _, cellA (W0 := W0) ?_ _ ?_ ?_, cellA (W0 := W0) ?_ _ ?_ ?_, cellA (W0 := W0) ?_ _ ?_ ?_⟩ <;> first | assumption | omega)
      | ((try go_split_ands); refine ⟨keepAd (W0 := W0) ?_ _, cellAd (W0 := W0) ?_ _ ?_ ?_, cellAd (W0 := W0) ?_ _ ?_ ?_, cellAd (W0 := W0) ?_ _ ?_ ?_⟩ <;> first | assumption | omega | exact Below.refl _ _)
      | ((try go_split_ands); (with_reducible refine ⟨keep3 (W0 := W0) ?_ ?_ _ _ _, cell3 (W0 := W0) ?_ _ _ _ ?_ ?_, cell3 (W0 := W0) ?_ _ _ _ ?_ ?_, cell3 (W0 := W0) ?_ _ _ _ ?_ ?_⟩) <;> first | assumption | omega | exact Nat.le_refl _)
      | ((try go_split_ands); refine ⟨keep2 (W0 := W0) ?_ ?_ _ _, cell2 (W0 := W0) ?_ _ _ ?_ ?_, cell2 (W0 := W0) ?_ _ _ ?_ ?_, cell2 (W0 := W0) ?_ _ _ ?_ ?_⟩ <;> first | assumption | omega | exact Nat.le_refl _)
      | ((try go_split_ands); refine ⟨keepZ (W0 := W0) ?_ ?_ _, cellZ (W0 := W0) ?_ _ ?_ ?_, cellZ (W0 := W0) ?_ _ ?_ ?_, cellZ (W0 := W0) ?_ _ ?_ ?_⟩ <;> first | assumption | omega | exact Nat.le_refl _ | exact ⟨_, by assumption⟩))
    (first | (go_at_call 75; (with_reducible refine (H1.out _ ?_).mono ?_); (focus (refine md_keep (Lib.hid (md_keep hM HB0.out)) ?_; first | assumption | (with_reducible exact (Below.refl _ _).drew) | (go_split_ands; done) | ((try go_split_ands); assumption))); rintro e w1 ⟨rfl, hb1⟩; (try go_split_ands); have hge : W0.heap.size ≤ w1.heap.size := (by first | (refine (keepS (W0 := W0) ?_ hb1).size; assumption) | exact (hb1.size : W0.heap.size ≤ w1.heap.size)); (try have hrow := row_call hb1 hrow); (try have hrow := row_new hb1); (try have hrow := row_newd hb1); have hl1 := lt_below hb1; obtain ⟨hc1, hf1⟩ := bcell hb1; (try (have hrc := row_cellA hrow; clear hc1 hf1)); (try have hrf := row_frozA hrow)) | (go_at_call 75; refine (H1.out _ (by first | exact md_keep (Lib.hid (md_keep hM HB0.out)) (by assumption) | exact md_keep (Lib.hid (md_keep hM HB0.out)) (by (try go_split_ands); assumption) | exact md_keep (Lib.hid (md_keep hM HB0.out)) (Below.refl _ _).drew)).mono ?_; rintro e w1 ⟨rfl, hb1⟩; (try go_split_ands); have hge : W0.heap.size ≤ w1.heap.size := (by first | (refine (keepS (W0 := W0) ?_ hb1).size; assumption) | exact (hb1.size : W0.heap.size ≤ w1.heap.size)); (try have hrow := row_call hb1 hrow); (try have hrow := row_new hb1); (try have hrow := row_newd hb1); have hl1 := lt_below hb1; obtain ⟨hc1, hf1⟩ := bcell hb1; (try (have hrc := row_cellA hrow; clear hc1 hf1)); (try have hrf := row_frozA hrow)))
            all_goals (try go_split_ands)
            all_goals (go_wp2_with fail; go_meet; refine ⟨rfl, ?_⟩)
            all_goals first | (with_reducible assumption) | (with_reducible exact heap_alloc_new _ _) | (with_reducible exact row_set3 (by assumption) _ _ _) | assumption | exact heap_alloc_new _ _ | exact row_set (by assumption) _ _
          case rest =>
            obtain ⟨rfl, hB⟩ := hcut
            obtain ⟨V21, rfl⟩ : ∃ V, V = wc := ⟨_, rfl⟩
            clear Z1_0 Z1_1 Z1_2 Z1_f0 Z1_f1 Z1_f2 zZ1 D1_0 D1_1 D1_2 D1_f0 D1_f1 D1_f2 zD1
            replace Z1 := Lib.hid (row_call hB Z1.out)
            replace D1 := Lib.hid (row_call hB D1.out)
            have B21 := Lib.hid (HB0.out.trans (hB.mono HB0.out.size))
            clear hB
            obtain ⟨Z1_0, Z1_1, Z1_2⟩ := qw3 Z1
            have Z1_f0 : V21.frozen? ⟨w.heap.size, 0, none⟩ = false := (by simp [World.frozen?, Z1.out])
            have Z1_f1 : V21.frozen? ⟨w.heap.size, 1, none⟩ = false := (by simp [World.frozen?, Z1.out])
            have Z1_f2 : V21.frozen? ⟨w.heap.size, 2, none⟩ = false := (by simp [World.frozen?, Z1.out])
            have zZ1 := lt_of_heap Z1.out
            obtain ⟨D1_0, D1_1, D1_2⟩ := qw3 D1
            have D1_f0 : V21.frozen? ⟨w.heap.size + 1, 0, none⟩ = false := (by simp [World.frozen?, D1.out])
            have D1_f1 : V21.frozen? ⟨w.heap.size + 1, 1, none⟩ = false := (by simp [World.frozen?, D1.out])
            have D1_f2 : V21.frozen? ⟨w.heap.size + 1, 2, none⟩ = false := (by simp [World.frozen?, D1.out])
            have zD1 := lt_of_heap D1.out
            go_wp2_with fail
            refine (H9.out _ (by first | exact md_keep hM (B21.out) | exact md_keep hM ((B21.out).alloc (B21.out.size) _) | exact md_keep hM (((B21.out).alloc (B21.out.size) _).alloc (by have := B21.out.size; simp <;> omega) _) | exact md_keep hM ((((B21.out).alloc (B21.out.size) _).alloc (by have := B21.out.size; simp <;> omega) _).alloc (by have := B21.out.size; simp <;> omega) _))).mono ?_
            rintro e V22 ⟨rfl, hb22⟩
            clear Z1_0 Z1_1 Z1_2 Z1_f0 Z1_f1 Z1_f2 zZ1 D1_0 D1_1 D1_2 D1_f0 D1_f1 D1_f2 zD1
            have B22 : Hid (Below w.heap.size w V22) := nbx B21 hb22
            replace Z1 := rcx hb22 Z1
            replace D1 := rcx hb22 D1
            clear hb22
            obtain ⟨Z1_0, Z1_1, Z1_2⟩ := qw3 Z1
            have Z1_f0 : V22.frozen? ⟨w.heap.size, 0, none⟩ = false := by simp [World.frozen?, Z1.out]
            have Z1_f1 : V22.frozen? ⟨w.heap.size, 1, none⟩ = false := by simp [World.frozen?, Z1.out]
            have Z1_f2 : V22.frozen? ⟨w.heap.size, 2, none⟩ = false := by simp [World.frozen?, Z1.out]
            obtain ⟨D1_0, D1_1, D1_2⟩ := qw3 D1
            have D1_f0 : V22.frozen? ⟨w.heap.size + 1, 0, none⟩ = false := by simp [World.frozen?, D1.out]
            have D1_f1 : V22.frozen? ⟨w.heap.size + 1, 1, none⟩ = false := by simp [World.frozen?, D1.out]
            have D1_f2 : V22.frozen? ⟨w.heap.size + 1, 2, none⟩ = false := by simp [World.frozen?, D1.out]
            have zZ1 := lt_of_heap Z1.out
            have zD1 := lt_of_heap D1.out
            go_simp
            go_wp2
            refine shut_ret (v := .tuple #[.agg #[.int .i64 y, .int .i64 KM, .int .i64 D], .int .i64 0]) (by simp [results, Tryz.results140, go_sem, zZ1, Z1_0, Z1_1, Z1_2, D1_0, D1_1, D1_2]) rfl ⟨by rw [hK2.out, hD2.out], ?_⟩
            exact keep3 B22.out (Nat.le_refl _) _ _ _
theorem stops_day {y n m d : Int} (hm : mayB y m d = true) (hd : dnI y m d = yst y + n - 1) : Stops y n (m - 1).toNat ∧ (((m - 1).toNat : Nat) : Int) + 1 = m ∧ n - cmN y (m - 1).toNat = d := by
  obtain ⟨p1, p2, p3, p4, p5⟩ := mayB_yes hm
  obtain ⟨e1, e2, e3⟩ := dn_in hm
  have hk : (((m - 1).toNat : Nat) : Int) + 1 = m := by omega
  have hn : n - cmN y (m - 1).toNat = d := by omega
  refine ⟨⟨by omega, fun j hj => ?_, Or.inr (by rw [hk, hn]; exact p2)⟩, hk, hn⟩
  have a := cm_mono y (j + 1) (m - 1).toNat (by omega)
  rw [cm_succ] at a
  omega
theorem pOfOrdinal_any (y n m d : Int) (b1 : -9223372036854775808 ≤ n) (b2 : n < 9223372036854775808) (y1 : -9999 ≤ y) (y2 : y ≤ 9999) (hm : mayB y m d = true) (hd : dnI y m d = yst y + n - 1) (w : World) (hM : MD w) :
    Calls Tryz.prog 140 #[.int .i64 y, .int .i64 n] w fun e w' => e = .returned (.tuple #[.agg #[.int .i64 y, .int .i64 m, .int .i64 d], .int .i64 0]) ∧ Below w.heap.size w w' := by
  obtain ⟨hs, hk, hn⟩ := stops_day hm hd
  have e : ckC y ((((m - 1).toNat : Nat) : Int) + 1) (n - cmN y (m - 1).toNat) = 0 := by rw [hk, hn]; exact ckC_ok hm (by omega)
  have X := pOo_ok y n _ hs b1 b2 e w hM
  rw [hk, hn] at X
  exact X
set_option maxHeartbeats 3200000 in
set_option maxRecDepth 100000 in
theorem pDateOf_any (y m d : Int) (hm : mayB y m d = true) (y1 : -9999 ≤ y) (y2 : y ≤ 9999) (w : World) (hM : MD w) : Calls Tryz.prog 120 #[.int .i64 (dnI y m d)] w fun e w' => e = .returned (.tuple #[.agg #[.int .i64 y, .int .i64 m, .int .i64 d], .int .i64 0]) ∧ Below w.heap.size w w' := by
  replace hM := Lib.hid hM
  obtain ⟨e1, e2, e3⟩ := dn_in hm
  obtain ⟨p1, p2, p3, p4, p5⟩ := mayB_yes hm
  have s1 := yst_mono y1
  have s3 := yst_succ y
  have s4 := yst_bounds
  have s6 := ydI_bd y
  have s8 := yst_mono (show y + 1 ≤ 10000 by omega)
  have r1 : yst y ≤ dnI y m d := by omega
  have r2 : dnI y m d < yst (y + 1) := by omega
  have r3 : -4371587 ≤ dnI y m d := by omega
  have r4 : dnI y m d ≤ 2932896 := by omega
  have H1 := Lib.hid (fun w => grow_of (pYearOf_p y (dnI y m d) r3 r4 r1 r2 w))
  have H2 := Lib.hid (fun w => grow_of (pFirst_p y ⟨y1, y2⟩ w))
  have H3 := Lib.hid (pOfOrdinal_any y (dnI y m d - yst y + 1) m d (by omega) (by omega) y1 y2 hm (by omega))
  have n1 : ¬ dnI y m d < -4371587 := by omega
  have n2 : ¬ 2932896 < dnI y m d := by omega
  have n3 : -5000000 ≤ yst y := by omega
  have n4 : yst y ≤ 5000000 := by omega
  clear e1 e2 e3 p1 p2 p3 p4 p5 s1 s3 s4 s6 s8 r1 r2 hm y1 y2
  generalize dnI y m d = n at *
  generalize yst y = S at *
  go_enter Tryz.func120, Tryz.ntmps120
  refine wp_shut ?_
  go_wp2_with fail
  
  refine (H1.out _).mono ?_
  rintro e V1 ⟨rfl, hb1⟩
  have B1 := nby hb1
  have Z1 := Lib.hid (row_call hb1 (heap_alloc_new _ _))
  clear hb1
  obtain ⟨Z1_0, Z1_1, Z1_2⟩ := qw3 Z1
  have Z1_f0 : V1.frozen? ⟨w.heap.size, 0, none⟩ = false := by simp [World.frozen?, Z1.out]
  have Z1_f1 : V1.frozen? ⟨w.heap.size, 1, none⟩ = false := by simp [World.frozen?, Z1.out]
  have Z1_f2 : V1.frozen? ⟨w.heap.size, 2, none⟩ = false := by simp [World.frozen?, Z1.out]
  have zZ1 := lt_of_heap Z1.out
  go_simp
  go_wp2_with fail
  refine (H2.out _).mono ?_
  rintro e V2 ⟨rfl, hb2⟩
  clear Z1_0 Z1_1 Z1_2 Z1_f0 Z1_f1 Z1_f2 zZ1
  have B2 : Hid (Below w.heap.size w V2) := nbx B1 hb2
  replace Z1 := rcx hb2 Z1
  clear hb2
  obtain ⟨Z1_0, Z1_1, Z1_2⟩ := qw3 Z1
  have Z1_f0 : V2.frozen? ⟨w.heap.size, 0, none⟩ = false := by simp [World.frozen?, Z1.out]
  have Z1_f1 : V2.frozen? ⟨w.heap.size, 1, none⟩ = false := by simp [World.frozen?, Z1.out]
  have Z1_f2 : V2.frozen? ⟨w.heap.size, 2, none⟩ = false := by simp [World.frozen?, Z1.out]
  have zZ1 := lt_of_heap Z1.out
  go_simp
  go_wp2_with fail
  refine (H3.out _ (by first | exact md_keep hM (B2.out) | exact md_keep hM ((B2.out).alloc (B2.out.size) _) | exact md_keep hM (((B2.out).alloc (B2.out.size) _).alloc (by have := B2.out.size; simp <;> omega) _) | exact md_keep hM ((((B2.out).alloc (B2.out.size) _).alloc (by have := B2.out.size; simp <;> omega) _).alloc (by have := B2.out.size; simp <;> omega) _))).mono ?_
  rintro e V3 ⟨rfl, hb3⟩
  clear Z1_0 Z1_1 Z1_2 Z1_f0 Z1_f1 Z1_f2 zZ1
  have B3 : Hid (Below w.heap.size w V3) := nbx B2 hb3
  replace Z1 := rcx hb3 Z1
  clear hb3
  obtain ⟨Z1_0, Z1_1, Z1_2⟩ := qw3 Z1
  have Z1_f0 : V3.frozen? ⟨w.heap.size, 0, none⟩ = false := by simp [World.frozen?, Z1.out]
  have Z1_f1 : V3.frozen? ⟨w.heap.size, 1, none⟩ = false := by simp [World.frozen?, Z1.out]
  have Z1_f2 : V3.frozen? ⟨w.heap.size, 2, none⟩ = false := by simp [World.frozen?, Z1.out]
  have zZ1 := lt_of_heap Z1.out
  go_simp
  go_wp2
  refine shut_ret (v := .tuple #[.agg #[.int .i64 y, .int .i64 m, .int .i64 d], .int .i64 0]) (by simp [results, Tryz.results120, go_sem, zZ1, Z1_0, Z1_1, Z1_2]) rfl ⟨rfl, ?_⟩
  exact keep3 B3.out (Nat.le_refl _) _ _ _
end Go.Proofs.YtafecnlaodgmkaaGreatDoor
namespace Go.Proofs.YtafecnlaodgmkaaGreatDoor
set_option linter.unusedVariables false
open Go.ChangeShapes Go.WideShapes Go.ChangeAt Go.RowKit
theorem gMD : Tryz.prog.globalNamed "analemma/civil.monthDays" = some 0 := by kernel_rfl
theorem tMD : (Tryz.prog.globals[0]?).map (·.type) = some 140 := by kernel_rfl
theorem cMD : Tryz.prog.cellsOf 140 = 12 := by kernel_rfl
theorem cInt : Tryz.prog.cellsOf 3 = 1 := by kernel_rfl
end Go.Proofs.YtafecnlaodgmkaaGreatDoor
