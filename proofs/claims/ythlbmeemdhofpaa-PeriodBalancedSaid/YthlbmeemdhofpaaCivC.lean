/- The plain answers of layer 6: a date's number. -/
import Derived.Test.YthlbmeemdhofpaaCivB
import Derived.Test.YthlbmeemdhofpaaLotQ
import Derived.Test.YthlbmeemdhofpaaInstA
import Derived.Test.YthlbmeemdhofpaaLotP
import Derived.Deep.DrawnRows
import Derived.Deep.Cut
import Derived.Deep.RegionHeld3
namespace Go.Proofs.Ythlbmeemdhofpaa
set_option linter.unusedVariables false
set_option linter.unusedSimpArgs false
open Go.ChangeShapes Go.WideShapes Go.ChangeAt Go.RowKit

/-- a pure call, as a contract that may make memory. -/
theorem grow_of {P : Program} {f : Nat} {args : Array Value} {w : World} {v : Value} (h : Calls P f args w fun e w' => e = .returned v ∧ w = w') : Calls P f args w fun e w' => e = .returned v ∧ Below w.heap.size w w' :=
  h.mono fun e w' ⟨h1, h2⟩ => ⟨h1, h2 ▸ Below.refl _ _⟩
/-- the days ahead of a month. -/
def cmN (y : Int) : Nat → Int | 0 => 0 | k + 1 => cmN y k + mdI y ((k : Int) + 1)
theorem cmN_bd (y : Int) (k : Nat) : 0 ≤ cmN y k ∧ cmN y k ≤ 31 * k := by
  induction k with
  | zero => exact ⟨Int.le_refl _, Int.le_refl _⟩
  | succ k ih => have := mdI_le y ((k : Int) + 1); show 0 ≤ cmN y k + _ ∧ cmN y k + _ ≤ _; omega
/-- a date's number. -/
@[irreducible] def dnI (y m d : Int) : Int := yst y + cmN y (m - 1).toNat + d - 1
@[irreducible] def mayB (y m d : Int) : Bool := decide (1 ≤ d) && decide (d ≤ mdI y m)
@[irreducible] def ckC (y m d : Int) : Int := if mayB y m d = true then (if y < -9999 ∨ 9999 < y then 8 else 0) else 7
theorem mayB_yes {y m d : Int} (h : mayB y m d = true) : 1 ≤ d ∧ d ≤ mdI y m ∧ 1 ≤ m ∧ m ≤ 12 ∧ d ≤ 31 := by
  unfold mayB at h
  rw [Bool.and_eq_true, decide_eq_true_eq, decide_eq_true_eq] at h
  have h2 := mdI_le y m
  refine ⟨h.1, h.2, ?_, ?_, by omega⟩
  · by_cases hm : m < 1 ∨ 12 < m
    · have := mdI_none y m hm; omega
    · omega
  · by_cases hm : m < 1 ∨ 12 < m
    · have := mdI_none y m hm; omega
    · omega
theorem ckC_no {y m d : Int} (h : mayB y m d = false) : ckC y m d = 7 := by unfold ckC; exact if_neg (by rw [h]; decide)
theorem ckC_out {y m d : Int} (h : mayB y m d = true) (h2 : y < -9999 ∨ 9999 < y) : ckC y m d = 8 := by unfold ckC; rw [if_pos h]; exact if_pos h2
theorem ckC_ok {y m d : Int} (h : mayB y m d = true) (h2 : ¬ (y < -9999 ∨ 9999 < y)) : ckC y m d = 0 := by unfold ckC; rw [if_pos h]; exact if_neg h2
theorem of_ckC {y m d : Int} (h : ckC y m d = 0) : mayB y m d = true ∧ -9999 ≤ y ∧ y ≤ 9999 := by
  cases hm : mayB y m d
  · rw [ckC_no hm] at h; omega
  · by_cases h2 : y < -9999 ∨ 9999 < y
    · rw [ckC_out hm h2] at h; omega
    · exact ⟨rfl, by omega, by omega⟩
/-- a date's number: 0 beside an error. -/
@[irreducible] def dyV (y m d : Int) : Int := if ckC y m d = 0 then dnI y m d else 0
@[irreducible] def orV (y m d : Int) : Int := if ckC y m d = 0 then dnI y m d - yst y + 1 else 0
theorem dy_ok {y m d : Int} (h : ckC y m d = 0) : dyV y m d = dnI y m d ∧ orV y m d = dnI y m d - yst y + 1 := by unfold dyV orV; exact ⟨if_pos h, if_pos h⟩
theorem dy_no {y m d : Int} (h : ckC y m d ≠ 0) : dyV y m d = 0 ∧ orV y m d = 0 := by unfold dyV orV; exact ⟨if_neg h, if_neg h⟩
theorem dn_bd {y m d : Int} (hy : -900000 ≤ y ∧ y ≤ 900000) (hm : 1 ≤ m ∧ m ≤ 12) (hd : 1 ≤ d ∧ d ≤ 31) : -1000000000 ≤ dnI y m d ∧ dnI y m d ≤ 1000001000 := by
  have h1 := yst_bd (y := y) (by omega)
  have h2 := cmN_bd y (m - 1).toNat
  unfold dnI; omega
end Go.Proofs.Ythlbmeemdhofpaa
