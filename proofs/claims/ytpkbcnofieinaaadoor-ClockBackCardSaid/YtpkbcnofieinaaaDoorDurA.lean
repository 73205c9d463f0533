/- Contracts of package dur: amounts, rounding down, the order, the check. -/
import Derived.Test.YtpkbcnofieinaaaDoorInstF
import Derived.Test.YtpkbcnofieinaaaDoorEqlW
import Derived.Lib.Zigzag
namespace Go.Proofs.YtpkbcnofieinaaaDoor
set_option linter.unusedVariables false
set_option linter.unusedSimpArgs false
open Go.ChangeShapes Go.WideShapes Go.ChangeAt Go.RowKit

/-- nanoseconds as a duration. -/
@[irreducible] def duE (T : Int) : Int := if -1099511627776000000000 ≤ T ∧ T ≤ 1099511627776000000000 then 0 else 8
@[irreducible] def duS (T : Int) : Int := if -1099511627776000000000 ≤ T ∧ T ≤ 1099511627776000000000 then T / 1000000000 else 0
@[irreducible] def duN (T : Int) : Int := if -1099511627776000000000 ≤ T ∧ T ≤ 1099511627776000000000 then T % 1000000000 else 0
theorem dd_yes {T : Int} (h : -1099511627776000000000 ≤ T ∧ T ≤ 1099511627776000000000) : duS T = T / 1000000000 ∧ duN T = T % 1000000000 ∧ duE T = 0 := by
  unfold duS duN duE; exact ⟨if_pos h, if_pos h, if_pos h⟩
theorem dd_no {T : Int} (h : ¬ (-1099511627776000000000 ≤ T ∧ T ≤ 1099511627776000000000)) : duS T = 0 ∧ duN T = 0 ∧ duE T = 8 := by
  unfold duS duN duE; exact ⟨if_neg h, if_neg h, if_neg h⟩
theorem of_duE {T : Int} (h : duE T = 0) : -1099511627776000000000 ≤ T ∧ T ≤ 1099511627776000000000 := by
  by_cases h1 : -1099511627776000000000 ≤ T ∧ T ≤ 1099511627776000000000
  · exact h1
  · rw [(dd_no h1).2.2] at h; omega
theorem duE_two (T : Int) : duE T = 0 ∨ duE T = 8 := by
  by_cases h1 : -1099511627776000000000 ≤ T ∧ T ≤ 1099511627776000000000
  · exact Or.inl (dd_yes h1).2.2
  · exact Or.inr (dd_no h1).2.2
theorem dd_ck (T : Int) : ckD (T / 1000000000) (T % 1000000000) = duE T := by
  have hw : wmB (T % 1000000000) = true := wmB_true (by omega) (by omega)
  by_cases h : -1099511627776000000000 ≤ T ∧ T ≤ 1099511627776000000000
  · rw [(dd_yes h).2.2]; exact ckD_ok hw (by omega)
  · rw [(dd_no h).2.2]; exact ckD_out hw (by omega)
theorem nanos_div {s n : Int} (h1 : 0 ≤ n) (h2 : n < 1000000000) : nanos s n / 1000000000 = s ∧ nanos s n % 1000000000 = n := by unfold nanos; omega
theorem ck_nanos {s n : Int} (h : ckD s n = 0) : -1099511627776000000000 ≤ nanos s n ∧ nanos s n ≤ 1099511627776000000000 := by
  have h1 := of_wmB (of_ckD h).1
  obtain ⟨e1, e2⟩ := nanos_div (s := s) h1.1 h1.2
  have := dd_ck (nanos s n)
  rw [e1, e2, h] at this
  exact of_duE this.symm
/-- a duration's number is the duration. -/
theorem dd_self {s n : Int} (h : ckD s n = 0) : duS (nanos s n) = s ∧ duN (nanos s n) = n ∧ duE (nanos s n) = 0 := by
  have h1 := of_wmB (of_ckD h).1
  obtain ⟨e1, e2⟩ := nanos_div (s := s) h1.1 h1.2
  obtain ⟨u1, u2, u3⟩ := dd_yes (ck_nanos h)
  rw [u1, u2, e1, e2]; exact ⟨rfl, rfl, u3⟩
/-- what was told is well made, and tells the number again. -/
theorem dd_back {T : Int} (h : duE T = 0) : ckD (duS T) (duN T) = 0 ∧ nanos (duS T) (duN T) = T := by
  obtain ⟨u1, u2, u3⟩ := dd_yes (of_duE h)
  rw [u1, u2, dd_ck T]
  exact ⟨h, by unfold nanos; omega⟩
theorem ckD_nonneg (s n : Int) : 0 ≤ ckD s n := by rcases ckD_three s n with h | h | h <;> rw [h] <;> decide
/-- with an error ahead. -/
@[irreducible] def dpE (F T : Int) : Int := if F = 0 then duE T else F
@[irreducible] def dpS (F T : Int) : Int := if F = 0 then duS T else 0
@[irreducible] def dpN (F T : Int) : Int := if F = 0 then duN T else 0
theorem pp_ok {F T : Int} (h : F = 0) : dpE F T = duE T ∧ dpS F T = duS T ∧ dpN F T = duN T := by unfold dpE dpS dpN; exact ⟨if_pos h, if_pos h, if_pos h⟩
theorem pp_no {F T : Int} (h : F ≠ 0) : dpE F T = F ∧ dpS F T = 0 ∧ dpN F T = 0 := by unfold dpE dpS dpN; exact ⟨if_neg h, if_neg h, if_neg h⟩
theorem of_dpE {F T : Int} (h : dpE F T = 0) : F = 0 ∧ duE T = 0 := by
  by_cases h1 : F = 0
  · rw [(pp_ok h1).1] at h; exact ⟨h1, h⟩
  · rw [(pp_no h1).1] at h; exact absurd h h1

theorem not_u64 (k : Nat) (u : U k) : bits .xor .u64 IntKind.u64.max (k : Int) = ((18446744073709551615 - k : Nat) : Int) := by
  unfold U at u
  have e2 : IntKind.u64.max = ((2 ^ 64 - 1 : Nat) : Int) := by decide
  rw [e2, bits_xor_u64_nat _ _ (by decide) (by omega), Lib.xor_ones64 _ (by omega)]
theorem zh_not (x : Int) : bits .xor .u64 IntKind.u64.max (zh x : Int) = (zh (-1 - x) : Int) ∧ bits .xor .u64 IntKind.u64.max (zl x : Int) = (zl (-1 - x) : Int) := by
  rw [not_u64 _ (zh_U x), not_u64 _ (zl_U x)]
  unfold zh zl hi lo zw
  omega
theorem dfl_up (x : Int) (d : Nat) (hd : 0 < d) (b : in128 x) (h : x < 0) : ∃ m q r : Nat, -1 - x = (m : Int) ∧ m < 340282366920938463463374607431768211456 ∧ m / d = q ∧ m % d = r ∧ r < d ∧ -1 - (q : Int) = x / d ∧ ((d - 1 - r : Nat) : Int) = x % d := by
  have e : -1 - x = ((-1 - x).toNat : Int) := by omega
  refine ⟨(-1 - x).toNat, _, _, e, by unfold in128 at b; omega, rfl, rfl, Nat.mod_lt _ hd, ?_⟩
  have h1 := Nat.div_add_mod (-1 - x).toNat d
  have h2 := Nat.mod_lt (-1 - x).toNat hd
  generalize (-1 - x).toNat = m at *
  generalize hq : m / d = q at *
  generalize hr : m % d = r at *
  have h3 : x = (-1 - (q : Int)) * d + ((d - 1 - r : Nat) : Int) := by
    have h4 : ((d * q + r : Nat) : Int) = (m : Int) := by rw [h1]
    rw [Int.natCast_add, Int.natCast_mul] at h4
    have h5 : (-1 - (q : Int)) * d = -(d : Int) - (d : Int) * q := by rw [Int.sub_mul, Int.mul_comm (q : Int)]; omega
    rw [h5]
    generalize (d : Int) * q = k at *
    omega
  have hb : (0 : Int) < (d : Int) := by omega
  have h6 : 0 ≤ ((d - 1 - r : Nat) : Int) ∧ ((d - 1 - r : Nat) : Int) < (d : Int) := by omega
  constructor
  · rw [h3, Int.add_comm, Int.add_mul_ediv_right _ _ (by omega), Int.ediv_eq_zero_of_lt h6.1 h6.2, Int.zero_add]
  · rw [h3, Int.add_comm, Int.add_mul_emod_self_right, Int.emod_eq_of_lt h6.1 h6.2]
end Go.Proofs.YtpkbcnofieinaaaDoor
