/- Contracts of package wide: the signed order. -/
import Derived.Test.YthlbmeemdhofpaaPkgA
import Derived.WalkKit
import Derived.ProofKit
import Derived.OpenShut
import Derived.Handy
import Derived.Outline
import Derived.Lib.Hide
import Derived.Deep.RegionHeld3
namespace Go.Proofs.Ythlbmeemdhofpaa
set_option linter.unusedVariables false
open Go.ChangeShapes Go.WideShapes Go.ChangeAt Go.RowKit

theorem xor_top (h : Nat) (u : U h) : ∃ x : Nat, bits .xor .u64 (h : Int) 9223372036854775808 = (x : Int) ∧ Hid (U x ∧ x = if neg h then h - 9223372036854775808 else h + 9223372036854775808) := by
  refine ⟨h ^^^ 9223372036854775808, ?_, ?_⟩
  · have := u64_xor_nat h 9223372036854775808 u (by omega)
    rw [show ((9223372036854775808 : Nat) : Int) = 9223372036854775808 from rfl] at this
    exact this
  · show _ ∧ _
    have hx : h ^^^ 2 ^ 63 = if neg h then h - 2 ^ 63 else h + 2 ^ 63 := by
      unfold neg
      have hdiv : h / 2 ^ 63 < 2 := by unfold U at u; omega
      by_cases hn : 9223372036854775808 ≤ h
      · rw [decide_eq_true hn, if_pos rfl]
        obtain ⟨r, rfl⟩ : ∃ r, h = 2 ^ 63 + r := ⟨h - 2 ^ 63, by omega⟩
        have hr : r < 2 ^ 63 := by unfold U at u; omega
        apply Nat.eq_of_testBit_eq
        intro i
        rw [Nat.testBit_xor, Nat.testBit_two_pow]
        by_cases hi : i = 63
        · subst hi
          rw [Nat.testBit_two_pow_add_eq, Nat.testBit_lt_two_pow hr, show 2 ^ 63 + r - 2 ^ 63 = r by omega, Nat.testBit_lt_two_pow hr]; decide
        · rw [decide_eq_false (Ne.symm hi), Bool.xor_false, show 2 ^ 63 + r - 2 ^ 63 = r by omega]
          rcases Nat.lt_or_ge i 63 with h63 | h63
          · rw [Nat.testBit_two_pow_add_gt h63]
          · rw [Nat.testBit_lt_two_pow (Nat.lt_of_lt_of_le hr (Nat.pow_le_pow_right (by omega) h63)), Nat.testBit_lt_two_pow (Nat.lt_of_lt_of_le u (Nat.pow_le_pow_right (n := 2) (i := 64) (by omega) (by omega)))]
      · have hr : h < 2 ^ 63 := by omega
        rw [decide_eq_false hn, if_neg (by decide)]
        have h1 := Nat.two_pow_add_eq_or_of_lt hr 1
        rw [Nat.mul_one] at h1
        rw [Nat.add_comm, h1]
        apply Nat.eq_of_testBit_eq
        intro i
        rw [Nat.testBit_xor, Nat.testBit_or, Nat.testBit_two_pow]
        by_cases hi : i = 63
        · subst hi; rw [Nat.testBit_lt_two_pow hr]; decide
        · rw [decide_eq_false (Ne.symm hi)]; simp
    refine ⟨?_, hx⟩
    show h ^^^ 2 ^ 63 < 2 ^ 64
    exact Nat.xor_lt_two_pow u (by decide)
theorem cmpI_congr {a b c d : Nat} (h1 : a = b ↔ c = d) (h2 : a < b ↔ c < d) : cmpI a b = cmpI c d := by
  unfold cmpI
  by_cases e : a = b
  · rw [if_pos e, if_pos (h1.1 e)]
  · rw [if_neg e, if_neg (fun h => e (h1.2 h))]
    by_cases f : a < b
    · rw [if_pos f, if_pos (h2.1 f)]
    · rw [if_neg f, if_neg (fun h => f (h2.2 h))]
theorem cmpI_lt {a b : Nat} (h : a < b) : cmpI a b = -1 := by unfold cmpI; rw [if_neg (by omega), if_pos h]
theorem cmpI_gt {a b : Nat} (h : b < a) : cmpI a b = 1 := by unfold cmpI; rw [if_neg (by omega), if_neg (by omega)]
theorem signed_cmp (h1 l1 h2 l2 x y : Nat) (u1 : U h1) (v1 : U l1) (u2 : U h2) (v2 : U l2) (hx : x = if neg h1 then h1 - 9223372036854775808 else h1 + 9223372036854775808) (hy : y = if neg h2 then h2 - 9223372036854775808 else h2 + 9223372036854775808) :
    cmpI (num x l1) (num y l2) = sgnI (num h1 l1) h1 (num h2 l2) h2 := by
  have e1 := @num_eq x l1 y l2 v1 v2
  have e2 := @num_lt_iff x l1 y l2 v1 v2
  have e2' := @num_lt_iff y l2 x l1 v2 v1
  have e3 := @num_eq h1 l1 h2 l2 v1 v2
  have e4 := @num_lt_iff h1 l1 h2 l2 v1 v2
  have k1 : neg h1 = decide (9223372036854775808 ≤ h1) := rfl
  have k2 : neg h2 = decide (9223372036854775808 ≤ h2) := rfl
  rw [k1] at hx
  rw [k2] at hy
  unfold sgnI
  rw [k1, k2]
  by_cases n1 : 9223372036854775808 ≤ h1
  · rw [decide_eq_true n1] at hx ⊢
    rw [if_pos rfl] at hx
    by_cases n2 : 9223372036854775808 ≤ h2
    · rw [decide_eq_true n2] at hy ⊢
      rw [if_pos rfl] at hy
      rw [if_neg (by decide)]
      exact cmpI_congr (e1.trans (Iff.trans (by omega) e3.symm)) (e2.trans (Iff.trans (by omega) e4.symm))
    · rw [decide_eq_false n2] at hy ⊢
      rw [if_neg (by decide)] at hy
      rw [if_pos (by decide), if_pos rfl]
      exact cmpI_lt (e2.2 (by unfold U at u1; omega))
  · rw [decide_eq_false n1] at hx ⊢
    rw [if_neg (by decide)] at hx
    by_cases n2 : 9223372036854775808 ≤ h2
    · rw [decide_eq_true n2] at hy ⊢
      rw [if_pos rfl] at hy
      rw [if_pos (by decide), if_neg (by decide)]
      exact cmpI_gt (e2'.2 (by unfold U at u2; omega))
    · rw [decide_eq_false n2] at hy ⊢
      rw [if_neg (by decide)] at hy
      rw [if_neg (by decide)]
      exact cmpI_congr (e1.trans (Iff.trans (by omega) e3.symm)) (e2.trans (Iff.trans (by omega) e4.symm))

end Go.Proofs.Ythlbmeemdhofpaa
