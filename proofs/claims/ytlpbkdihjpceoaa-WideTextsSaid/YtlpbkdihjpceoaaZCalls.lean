/- Contracts over integers: wide's calls and the plain answers of layer 1. -/
import Derived.Test.YtlpbkdihjpceoaaZPlain
import Derived.Test.YtlpbkdihjpceoaaPkgF
import Derived.Test.YtlpbkdihjpceoaaPkgD
import Derived.Test.YtlpbkdihjpceoaaRefP
import Derived.Test.YtlpbkdihjpceoaaRefN
namespace Go.Proofs.Ytlpbkdihjpceoaa
set_option linter.unusedVariables false
open Go.ChangeShapes Go.WideShapes Go.ChangeAt Go.RowKit

@[irreducible] def cb (x y : Int) : Bool := big (zw x + zw y)
@[irreducible] def bb (x y : Int) : Bool := decide (zw x < zw y)
def cmpZ (x y : Int) : Int := if x = y then 0 else if x < y then -1 else 1
theorem sgn_z2 (x y : Int) (b : in128 x) (c : in128 y) : sgnI (zw x) (zh x) (zw y) (zh y) = cmpZ x y := by
  unfold sgnI cmpI cmpZ
  rw [neg_z x b, neg_z y c]
  unfold in128 at b c
  unfold zw
  by_cases h1 : x < 0 <;> by_cases h2 : y < 0
  · rw [decide_eq_true h1, decide_eq_true h2, if_neg (by decide)]
    repeat' split
    all_goals omega
  · rw [decide_eq_true h1, decide_eq_false h2, if_pos (by decide), if_pos rfl]
    repeat' split
    all_goals omega
  · rw [decide_eq_false h1, decide_eq_true h2, if_pos (by decide), if_neg (by decide)]
    repeat' split
    all_goals omega
  · rw [decide_eq_false h1, decide_eq_false h2, if_neg (by decide)]
    repeat' split
    all_goals omega
theorem zOf_any (n : Int) (b : in64 n) (w : World) : Calls Try.prog 67 #[.int .i64 n] w fun e w' => e = .returned (.agg #[.int .u64 (zh n), .int .u64 (zl n)]) ∧ Below w.heap.size w w' := by
  have h := of_any n b w
  rw [zh_of n b, zl_of n] at h
  exact h

theorem zAdd_any (x y : Int) (w : World) : Calls Try.prog 48 #[.agg #[.int .u64 (zh x), .int .u64 (zl x)], .agg #[.int .u64 (zh y), .int .u64 (zl y)]] w fun e w' => e = .returned (.tuple #[.agg #[.int .u64 (zh (x + y)), .int .u64 (zl (x + y))], .bool (cb x y)]) ∧ Below w.heap.size w w' := by
  have h := add_any (zh x) (zl x) (zh y) (zl y) (zh_U x) (zl_U x) (zh_U y) (zl_U y) w
  rw [num_z, num_z, hi_z (zw_add x y), lo_z (zw_add x y)] at h
  unfold cb
  exact h

theorem zSub_any (x y : Int) (w : World) : Calls Try.prog 52 #[.agg #[.int .u64 (zh x), .int .u64 (zl x)], .agg #[.int .u64 (zh y), .int .u64 (zl y)]] w fun e w' => e = .returned (.tuple #[.agg #[.int .u64 (zh (x - y)), .int .u64 (zl (x - y))], .bool (bb x y)]) ∧ Below w.heap.size w w' := by
  have h := sub_any (zh x) (zl x) (zh y) (zl y) (zh_U x) (zl_U x) (zh_U y) (zl_U y) w
  rw [num_z, num_z, hi_z (zw_sub x y), lo_z (zw_sub x y)] at h
  unfold bb
  exact h

theorem zNeg_any (x : Int) (w : World) : Calls Try.prog 36 #[.agg #[.int .u64 (zh x), .int .u64 (zl x)]] w fun e w' => e = .returned (.agg #[.int .u64 (zh (-x)), .int .u64 (zl (-x))]) ∧ Below w.heap.size w w' := by
  have h := neg_any (zh x) (zl x) (zh_U x) (zl_U x) w
  rw [num_z, hi_z (zw_neg x), lo_z (zw_neg x)] at h
  exact h

theorem zInt_any (x : Int) (b : in128 x) (w : World) : Calls Try.prog 73 #[.agg #[.int .u64 (zh x), .int .u64 (zl x)]] w fun e w' => e = .returned (.tuple #[.int .i64 (iV x), .int .i64 (iE x)]) ∧ Below w.heap.size w w' := by
  have h := int_any (zh x) (zl x) (zh_U x) (zl_U x) w
  rw [(int_z x b).1, (int_z x b).2] at h
  exact h

theorem zMul_any (a b : Nat) (ha : U a) (hb : U b) (w : World) : Calls Try.prog 43 #[.int .u64 a, .int .u64 b] w fun e w' => e = .returned (.agg #[.int .u64 (zh (a * b : Nat)), .int .u64 (zl (a * b : Nat))]) ∧ Below w.heap.size w w' := by
  have h := mul_any a b ha hb w
  have e : a * b % 340282366920938463463374607431768211456 = zw (a * b : Nat) := by unfold zw; omega
  rw [hi_z e, lo_z e] at h
  exact h

theorem zDiv_any (n b : Nat) (hn : n < 340282366920938463463374607431768211456) (hb : U b) (hb0 : 0 < b) (w : World) : Calls Try.prog 31 #[.agg #[.int .u64 (zh (n : Nat)), .int .u64 (zl (n : Nat))], .int .u64 b] w fun e w' => e = .returned (.tuple #[.agg #[.int .u64 (zh (n / b : Nat)), .int .u64 (zl (n / b : Nat))], .int .u64 (n % b : Nat), .int .i64 0]) ∧ Below w.heap.size w w' := by
  have h := div_any (zh n) (zl n) b (zh_U _) (zl_U _) hb hb0 w
  have e : n / b % 340282366920938463463374607431768211456 = zw (n / b : Nat) := by unfold zw; omega
  rw [num_z, zw_nat n hn, hi_z e, lo_z e] at h
  exact h

theorem zDiv_zero (x : Int) (w : World) : Calls Try.prog 31 #[.agg #[.int .u64 (zh x), .int .u64 (zl x)], .int .u64 0] w fun e w' => e = .returned (.tuple #[.agg #[.int .u64 0, .int .u64 0], .int .u64 0, .int .i64 5]) ∧ Below w.heap.size w w' := by
  exact div_zero (zh x) (zl x) w


theorem rOf_any (n : Int) (b : in64 n) (w : World) : Calls Try.prog 69 #[.int .i64 n] w fun e w' => e = .returned (.agg #[.int .u64 (zh n), .int .u64 (zl n)]) ∧ Below w.heap.size w w' := by
  have h := refOf_any n w
  rw [zh_of n b, zl_of n] at h
  exact h

theorem rAdd_any (x y : Int) (w : World) : Calls Try.prog 38 #[.agg #[.int .u64 (zh x), .int .u64 (zl x)], .agg #[.int .u64 (zh y), .int .u64 (zl y)]] w fun e w' => e = .returned (.tuple #[.agg #[.int .u64 (zh (x + y)), .int .u64 (zl (x + y))], .bool (cb x y)]) ∧ Below w.heap.size w w' := by
  have h := refAdd_any (zh x) (zl x) (zh y) (zl y) (zh_U x) (zl_U x) (zh_U y) (zl_U y) w
  rw [num_z, num_z, hi_z (zw_add x y), lo_z (zw_add x y)] at h
  unfold cb
  exact h

theorem rSub_any (x y : Int) (w : World) : Calls Try.prog 54 #[.agg #[.int .u64 (zh x), .int .u64 (zl x)], .agg #[.int .u64 (zh y), .int .u64 (zl y)]] w fun e w' => e = .returned (.tuple #[.agg #[.int .u64 (zh (x - y)), .int .u64 (zl (x - y))], .bool (bb x y)]) ∧ Below w.heap.size w w' := by
  have h := refSub_any (zh x) (zl x) (zh y) (zl y) (zh_U x) (zl_U x) (zh_U y) (zl_U y) w
  rw [num_z, num_z, hi_z (zw_sub x y), lo_z (zw_sub x y)] at h
  unfold bb
  exact h

theorem rNeg_any (x : Int) (w : World) : Calls Try.prog 40 #[.agg #[.int .u64 (zh x), .int .u64 (zl x)]] w fun e w' => e = .returned (.agg #[.int .u64 (zh (-x)), .int .u64 (zl (-x))]) ∧ Below w.heap.size w w' := by
  have h := refNeg_any (zh x) (zl x) (zh_U x) (zl_U x) w
  rw [num_z, hi_z (zw_neg x), lo_z (zw_neg x)] at h
  exact h

theorem rInt_any (x : Int) (b : in128 x) (w : World) : Calls Try.prog 76 #[.agg #[.int .u64 (zh x), .int .u64 (zl x)]] w fun e w' => e = .returned (.tuple #[.int .i64 (iV x), .int .i64 (iE x)]) ∧ Below w.heap.size w w' := by
  have h := refInt_any (zh x) (zl x) (zh_U x) (zl_U x) w
  rw [(int_z x b).1, (int_z x b).2] at h
  exact h

theorem rMul_any (a b : Nat) (ha : U a) (hb : U b) (w : World) : Calls Try.prog 37 #[.int .u64 a, .int .u64 b] w fun e w' => e = .returned (.agg #[.int .u64 (zh (a * b : Nat)), .int .u64 (zl (a * b : Nat))]) ∧ Below w.heap.size w w' := by
  have h := refMul_any a b ha hb w
  have e : a * b % 340282366920938463463374607431768211456 = zw (a * b : Nat) := by unfold zw; omega
  rw [hi_z e, lo_z e] at h
  exact h

theorem rDiv_any (n b : Nat) (hn : n < 340282366920938463463374607431768211456) (hb : U b) (hb0 : 0 < b) (w : World) : Calls Try.prog 65 #[.agg #[.int .u64 (zh (n : Nat)), .int .u64 (zl (n : Nat))], .int .u64 b] w fun e w' => e = .returned (.tuple #[.agg #[.int .u64 (zh (n / b : Nat)), .int .u64 (zl (n / b : Nat))], .int .u64 (n % b : Nat), .int .i64 0]) ∧ Below w.heap.size w w' := by
  have h := refDiv_any (zh n) (zl n) b (zh_U _) (zl_U _) hb hb0 w
  have e : n / b % 340282366920938463463374607431768211456 = zw (n / b : Nat) := by unfold zw; omega
  rw [num_z, zw_nat n hn, hi_z e, lo_z e] at h
  exact h

theorem rDiv_zero (x : Int) (w : World) : Calls Try.prog 65 #[.agg #[.int .u64 (zh x), .int .u64 (zl x)], .int .u64 0] w fun e w' => e = .returned (.tuple #[.agg #[.int .u64 0, .int .u64 0], .int .u64 0, .int .i64 5]) ∧ Below w.heap.size w w' := by
  exact refDiv_zero (zh x) (zl x) w


theorem rBelow_any (x : Int) (b : in128 x) (w : World) : Calls Try.prog 41 #[.agg #[.int .u64 (zh x), .int .u64 (zl x)]] w fun e w' => e = .returned (.bool (decide (x < 0))) ∧ Below w.heap.size w w' := by
  have h := below_any (zh x) (zl x) w
  rw [neg_z x b] at h
  exact h
end Go.Proofs.Ytlpbkdihjpceoaa
