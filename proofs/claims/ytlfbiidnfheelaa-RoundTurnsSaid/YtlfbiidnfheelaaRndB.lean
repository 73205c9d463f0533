/- The plain answer of layer 5: the multiple that is not above, bit by bit: its numbers. -/
import Derived.Test.YtlfbiidnfheelaaRndA
namespace Go.Proofs.Ytlfbiidnfheelaa
set_option linter.unusedVariables false
set_option linter.unusedSimpArgs false
open Go.ChangeShapes Go.WideShapes Go.ChangeAt Go.RowKit

theorem rcmp_any (a b : Nat) (ha : a < 340282366920938463463374607431768211456) (hb : b < 340282366920938463463374607431768211456) (w : World) : Calls Try.prog 23 #[.agg #[.int .u64 (zh a), .int .u64 (zl a)], .agg #[.int .u64 (zh b), .int .u64 (zl b)]] w fun e w' => e = .returned (.int .i64 (cmpI a b)) ∧ Below w.heap.size w w' := by
  have h := refCmp_any (zh a) (zl a) (zh b) (zl b) (zl_U _) (zl_U _) w
  rw [num_z, num_z, zw_nat a ha, zw_nat b hb] at h
  exact h
theorem cmpL_le {a b : Nat} : cmpI a b ≤ 0 ↔ a ≤ b := by
  unfold cmpI
  repeat' split
  all_goals omega
theorem cmpL_gt {a b : Nat} : 0 < cmpI a b ↔ b < a := by
  unfold cmpI
  repeat' split
  all_goals omega
/-- does the unit, doubled so often, still fit? -/
@[irreducible] def fitB (u j : Nat) : Bool := decide (u * 2 ^ j < 170141183460469231731687303715884105728)
theorem fitB_zero {u : Nat} (h : u ≤ 1208925819614629174706176) : fitB u 0 = true := by unfold fitB; rw [Nat.pow_zero]; exact decide_eq_true (by omega)
theorem fitB_step {u j : Nat} (h : fitB u j = true) : decide ((zh ((u * 2 ^ j : Nat) : Int) : Int) < 4611686018427387904) = fitB u (j + 1) := by
  unfold fitB at *
  have h1 := of_decide_eq_true h
  rw [decide_eq_decide, Nat.pow_succ, ← Nat.mul_assoc]
  generalize u * 2 ^ j = D at *
  unfold zh hi zw
  omega
theorem fit_up {u j : Nat} (h : fitB u j = false) (i : Nat) (hi : j ≤ i) : fitB u i = false := by
  unfold fitB at *
  have h1 := of_decide_eq_false h
  refine decide_eq_false ?_
  have h2 : u * 2 ^ j ≤ u * 2 ^ i := Nat.mul_le_mul_left u (Nat.pow_le_pow_right (by decide) hi)
  omega
theorem fit_lt {u j : Nat} (h : fitB u j = true) : u * 2 ^ j < 170141183460469231731687303715884105728 := by unfold fitB at h; exact of_decide_eq_true h
theorem fit_ge {u j : Nat} (h : fitB u j = false) : 170141183460469231731687303715884105728 ≤ u * 2 ^ j := by unfold fitB at h; have := of_decide_eq_false h; omega
theorem dbl_z (u j : Nat) : ((u * 2 ^ j : Nat) : Int) + ((u * 2 ^ j : Nat) : Int) = ((u * 2 ^ (j + 1) : Nat) : Int) := by rw [Nat.pow_succ, ← Nat.mul_assoc]; omega
/-- what is left, what was got, ahead of bit k. -/
def lft (A u k : Nat) : Nat := A % (u * 2 ^ k)
def gt (A u k : Nat) : Nat := A - A % (u * 2 ^ k)
@[irreducible] def evB (A u k : Nat) : Bool := if k = 0 then (A / u) % 2 == 0 else true
theorem lft_start {A u : Nat} (hA : A < 170141183460469231731687303715884105728) (hu : 0 < u) : lft A u 128 = A ∧ gt A u 128 = 0 ∧ evB A u 128 = true := by
  have h : A % (u * 2 ^ 128) = A := Nat.mod_eq_of_lt (by
    have : 1 * 2 ^ 128 ≤ u * 2 ^ 128 := Nat.mul_le_mul_right _ hu
    omega)
  unfold lft gt evB
  rw [h]
  exact ⟨rfl, by omega, rfl⟩
theorem lft_end (A u : Nat) : lft A u 0 = A % u ∧ gt A u 0 = A / u * u := by
  unfold lft gt
  rw [Nat.pow_zero, Nat.mul_one]
  have := Nat.div_add_mod A u
  rw [Nat.mul_comm] at this
  omega
theorem mod_two (A D : Nat) : A % (D * 2) = A % D + D * (A / D % 2) := Nat.mod_mul
theorem lft_yes {A u i : Nat} (hu : 0 < u) (h : u * 2 ^ i ≤ lft A u (i + 1)) : ((lft A u (i + 1) : Nat) : Int) - ((u * 2 ^ i : Nat) : Int) = ((lft A u i : Nat) : Int) ∧ ((gt A u (i + 1) : Nat) : Int) + ((u * 2 ^ i : Nat) : Int) = ((gt A u i : Nat) : Int) ∧ (A / (u * 2 ^ i)) % 2 = 1 := by
  have hD : 0 < u * 2 ^ i := Nat.mul_pos hu (Nat.two_pow_pos i)
  unfold lft gt at *
  rw [Nat.pow_succ, ← Nat.mul_assoc] at *
  have e := mod_two A (u * 2 ^ i)
  have hl := Nat.mod_lt A hD
  have hle : A % (u * 2 ^ i * 2) ≤ A := Nat.mod_le _ _
  generalize u * 2 ^ i = D at *
  have h2 : A / D % 2 = 0 ∨ A / D % 2 = 1 := by omega
  rcases h2 with h2 | h2
  · rw [h2] at e; omega
  · rw [h2] at e ⊢; omega
theorem lft_no {A u i : Nat} (hu : 0 < u) (h : ¬ u * 2 ^ i ≤ lft A u (i + 1)) : lft A u (i + 1) = lft A u i ∧ gt A u (i + 1) = gt A u i ∧ (A / (u * 2 ^ i)) % 2 = 0 := by
  have hD : 0 < u * 2 ^ i := Nat.mul_pos hu (Nat.two_pow_pos i)
  unfold lft gt at *
  rw [Nat.pow_succ, ← Nat.mul_assoc] at *
  have e := mod_two A (u * 2 ^ i)
  generalize u * 2 ^ i = D at *
  have h2 : A / D % 2 = 0 ∨ A / D % 2 = 1 := by omega
  rcases h2 with h2 | h2
  · rw [h2] at e ⊢; omega
  · rw [h2] at e; omega
theorem ev_yes {A u i : Nat} (h : (A / (u * 2 ^ i)) % 2 = 1) : (evB A u (i + 1) && decide (0 < i)) = evB A u i := by
  unfold evB
  rw [if_neg (by omega), Bool.true_and]
  by_cases h0 : i = 0
  · subst h0; rw [Nat.pow_zero, Nat.mul_one] at h; rw [if_pos rfl, h]; rfl
  · rw [if_neg h0]; exact decide_eq_true (by omega)
theorem ev_no {A u i : Nat} (h : (A / (u * 2 ^ i)) % 2 = 0) : evB A u (i + 1) = evB A u i := by
  unfold evB
  rw [if_neg (by omega)]
  by_cases h0 : i = 0
  · subst h0; rw [Nat.pow_zero, Nat.mul_one] at h; rw [if_pos rfl, h]; rfl
  · rw [if_neg h0]
theorem evB_true {A u i : Nat} : evB A u (i + 1) = true := by unfold evB; exact if_neg (by omega)
theorem no_fit {A u i : Nat} (hA : A < 170141183460469231731687303715884105728) (h : fitB u i = false) : ¬ u * 2 ^ i ≤ lft A u (i + 1) := by
  have h1 := fit_ge h
  have h2 : lft A u (i + 1) ≤ A := Nat.mod_le _ _
  omega
theorem lft_le (A u k : Nat) : lft A u k ≤ A := Nat.mod_le _ _
theorem gt_le (A u k : Nat) : gt A u k ≤ A := by unfold gt; omega
end Go.Proofs.Ytlfbiidnfheelaa
