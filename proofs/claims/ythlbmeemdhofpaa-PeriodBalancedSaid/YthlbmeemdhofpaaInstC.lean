/- Contracts of package instant: numbers taken apart, made and checked. -/
import Derived.Test.YthlbmeemdhofpaaInstB
namespace Go.Proofs.Ythlbmeemdhofpaa
set_option linter.unusedVariables false
set_option linter.unusedSimpArgs false
open Go.ChangeShapes Go.WideShapes Go.ChangeAt Go.RowKit

/-- nanoseconds taken apart, within seconds first to last. -/
@[irreducible] def tkB (f l x : Int) : Bool := decide (f ≤ x / 1000000000) && decide (x / 1000000000 ≤ l)
@[irreducible] def tkS (f l x : Int) : Int := if tkB f l x = true then x / 1000000000 else 0
@[irreducible] def tkN (f l x : Int) : Int := if tkB f l x = true then x % 1000000000 else 0
@[irreducible] def tkE (f l x : Int) : Int := if tkB f l x = true then 0 else 8
theorem tk_yes {f l x : Int} (h1 : f ≤ x / 1000000000) (h2 : x / 1000000000 ≤ l) : tkS f l x = x / 1000000000 ∧ tkN f l x = x % 1000000000 ∧ tkE f l x = 0 := by
  have h : tkB f l x = true := by unfold tkB; rw [decide_eq_true h1, decide_eq_true h2]; rfl
  unfold tkS tkN tkE
  exact ⟨if_pos h, if_pos h, if_pos h⟩
theorem tk_no {f l x : Int} (h1 : ¬ (f ≤ x / 1000000000 ∧ x / 1000000000 ≤ l)) : tkS f l x = 0 ∧ tkN f l x = 0 ∧ tkE f l x = 8 := by
  have h : ¬ tkB f l x = true := by
    unfold tkB; rw [Bool.and_eq_true, decide_eq_true_eq, decide_eq_true_eq]; exact h1
  unfold tkS tkN tkE
  exact ⟨if_neg h, if_neg h, if_neg h⟩
theorem zw_zw (z : Int) : zw ((zw z : Nat) : Int) = zw z := by unfold zw; omega
theorem zh_zw (z : Int) : zh ((zw z : Nat) : Int) = zh z := by unfold zh; rw [zw_zw]
theorem zl_zw (z : Int) : zl ((zw z : Nat) : Int) = zl z := by unfold zl; rw [zw_zw]
theorem tk_math (f l x : Int) (b : in128 x) (f1 : -1099511627776 ≤ f) (f2 : f ≤ 0) (l1 : 0 ≤ l) (l2 : l ≤ 1099511627776) :
    ((f ≤ x / 1000000000 ∧ x / 1000000000 ≤ l) → ((zw (x - f * 1000000000) / 1000000000 : Nat) : Int) = x / 1000000000 - f ∧ ((zw (x - f * 1000000000) % 1000000000 : Nat) : Int) = x % 1000000000) ∧
    (¬ (f ≤ x / 1000000000 ∧ x / 1000000000 ≤ l) → l - f < ((zw (x - f * 1000000000) / 1000000000 : Nat) : Int)) ∧ in128 ((zw (x - f * 1000000000) / 1000000000 : Nat) : Int) := by
  have h := zw_lt (x - f * 1000000000)
  unfold in128 at *
  by_cases hx : f * 1000000000 ≤ x
  · have e : (zw (x - f * 1000000000) : Int) = x - f * 1000000000 := by unfold zw; omega
    generalize zw (x - f * 1000000000) = n at *
    clear h
    refine ⟨fun _ => ⟨by omega, by omega⟩, fun _ => by omega, by omega, by omega⟩
  · have e : (zw (x - f * 1000000000) : Int) = x - f * 1000000000 + 340282366920938463463374607431768211456 := by unfold zw; omega
    generalize zw (x - f * 1000000000) = n at *
    refine ⟨fun h2 => by omega, fun _ => by omega, by omega, by omega⟩
def TkRes (e : Ending) (f l x : Int) : Prop := e = .returned (.tuple #[.int .i64 (tkS f l x), .int .i64 (tkN f l x), .int .i64 (tkE f l x)])
end Go.Proofs.Ythlbmeemdhofpaa
