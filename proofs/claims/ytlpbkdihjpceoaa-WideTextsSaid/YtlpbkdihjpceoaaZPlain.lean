/- Plain facts: integers as numbers of 128 bits, two's complement. No program. -/
import Derived.Test.YtlpbkdihjpceoaaRefG
import Derived.Test.YtlpbkdihjpceoaaTextB
namespace Go.Proofs.Ytlpbkdihjpceoaa
set_option linter.unusedVariables false
open Go.ChangeShapes Go.WideShapes Go.ChangeAt Go.RowKit

def zw (z : Int) : Nat := (z % 340282366920938463463374607431768211456).toNat
@[irreducible] def zh (z : Int) : Nat := hi (zw z)
@[irreducible] def zl (z : Int) : Nat := lo (zw z)
theorem zw_lt (z : Int) : zw z < 340282366920938463463374607431768211456 := by unfold zw; omega
theorem zh_U (z : Int) : U (zh z) := by unfold zh; exact hi_U _
theorem zl_U (z : Int) : U (zl z) := by unfold zl; exact lo_U _
theorem num_z (z : Int) : num (zh z) (zl z) = zw z := by unfold zh zl; exact num_hl_of (zw_lt z)
theorem hi_z {n : Nat} {z : Int} (h : n % 340282366920938463463374607431768211456 = zw z) : hi n = zh z := by unfold zh; rw [← hi_mod, h]
theorem lo_z {n : Nat} {z : Int} (h : n % 340282366920938463463374607431768211456 = zw z) : lo n = zl z := by unfold zl; rw [← lo_mod, h]
theorem zw_add (x y : Int) : (zw x + zw y) % 340282366920938463463374607431768211456 = zw (x + y) := by unfold zw; omega
theorem zw_sub (x y : Int) : (zw x + 340282366920938463463374607431768211456 - zw y) % 340282366920938463463374607431768211456 = zw (x - y) := by unfold zw; omega
theorem zw_neg (x : Int) : (340282366920938463463374607431768211456 - zw x) % 340282366920938463463374607431768211456 = zw (-x) := by unfold zw; omega
theorem zw_nat (n : Nat) (h : n < 340282366920938463463374607431768211456) : zw (n : Int) = n := by unfold zw; omega
theorem zw_small (h l : Nat) (u : U h) (v : U l) : zw (num h l : Nat) = num h l := zw_nat _ (num_lt u v)
/-- the integer that a number shows, signed. -/
def sz (h l : Nat) : Int := if neg h then (num h l : Int) - 340282366920938463463374607431768211456 else (num h l : Int)
theorem zw_sz (h l : Nat) (u : U h) (v : U l) : zw (sz h l) = num h l := by
  have := num_lt u v
  unfold sz zw
  split <;> omega
theorem zh_sz (h l : Nat) (u : U h) (v : U l) : zh (sz h l) = h := by unfold zh; rw [zw_sz h l u v]; exact hi_num u v
theorem zl_sz (h l : Nat) (u : U h) (v : U l) : zl (sz h l) = l := by unfold zl; rw [zw_sz h l u v]; exact lo_num v
theorem num_bd {h l : Nat} (u : U h) (v : U l) : (neg h = true → 170141183460469231731687303715884105728 ≤ num h l) ∧ (neg h = false → num h l < 170141183460469231731687303715884105728) := by
  unfold neg num
  unfold U at v
  constructor
  · intro hn; have := of_decide_eq_true hn; omega
  · intro hn; have := of_decide_eq_false hn; omega
def in128 (z : Int) : Prop := -170141183460469231731687303715884105728 ≤ z ∧ z < 170141183460469231731687303715884105728
def in64 (z : Int) : Prop := -9223372036854775808 ≤ z ∧ z < 9223372036854775808
instance (z : Int) : Decidable (in64 z) := by unfold in64; infer_instance
theorem in64.wide {z : Int} (h : in64 z) : in128 z := by unfold in64 at h; unfold in128; omega
theorem sz_in (h l : Nat) (u : U h) (v : U l) : in128 (sz h l) := by
  have h1 := num_bd u v
  have h2 := num_lt u v
  unfold sz in128
  cases hn : neg h
  · have := h1.2 hn; simp; omega
  · have := h1.1 hn; simp; omega
theorem zh_of (n : Int) (b : in64 n) : ofH n = zh n := by
  unfold in64 at b
  unfold ofH zh hi zw
  split <;> omega
theorem zl_of (n : Int) : ofL n = zl n := by
  unfold ofL zl lo zw
  omega
theorem neg_z (z : Int) (b : in128 z) : neg (zh z) = decide (z < 0) := by
  unfold in128 at b
  unfold neg zh hi zw
  rw [decide_eq_decide]
  omega
/-- an int's value and error. -/
def iV (z : Int) : Int := if -9223372036854775808 ≤ z ∧ z < 9223372036854775808 then z else 0
def iE (z : Int) : Int := if -9223372036854775808 ≤ z ∧ z < 9223372036854775808 then 0 else 8
theorem iV_of {z : Int} (b : in64 z) : iV z = z := if_pos b
theorem iE_of {z : Int} (b : in64 z) : iE z = 0 := if_pos b
theorem iV_not {z : Int} (b : ¬ in64 z) : iV z = 0 := if_neg b
theorem iE_not {z : Int} (b : ¬ in64 z) : iE z = 8 := if_neg b
theorem iV_in (z : Int) : in64 (iV z) := by unfold iV; split <;> unfold in64 <;> omega
theorem intOk_z (z : Int) (b : in128 z) : intOk (zh z) (zl z) = decide (in64 z) := by
  unfold in128 at b
  unfold intOk sgn
  rw [IntKind.wrap_i64]
  unfold ofH zh zl hi lo zw in64
  by_cases h : -9223372036854775808 ≤ z ∧ z < 9223372036854775808
  · rw [decide_eq_true h, beq_iff_eq]
    split <;> omega
  · rw [decide_eq_false h, beq_eq_false_iff_ne]
    split <;> omega
theorem sgn_z (z : Int) (b : in64 z) : sgn (zl z) = z := by
  unfold in64 at b
  unfold sgn zl lo zw
  rw [IntKind.wrap_i64]
  omega
theorem int_z (z : Int) (b : in128 z) : (if intOk (zh z) (zl z) then sgn (zl z) else 0) = iV z ∧ (if intOk (zh z) (zl z) then (0 : Int) else 8) = iE z := by
  rw [intOk_z z b]
  by_cases h : in64 z
  · rw [decide_eq_true h, if_pos rfl, if_pos rfl, iV_of h, iE_of h, sgn_z z h]; exact ⟨rfl, rfl⟩
  · rw [decide_eq_false h, if_neg (by decide), if_neg (by decide), iV_not h, iE_not h]; exact ⟨rfl, rfl⟩
theorem sz_z (z : Int) (b : in128 z) : sz (zh z) (zl z) = z := by
  unfold sz
  rw [neg_z z b, num_z]
  unfold in128 at b
  unfold zw
  by_cases h : z < 0
  · rw [decide_eq_true h, if_pos rfl]; omega
  · rw [decide_eq_false h, if_neg (by decide)]; omega
end Go.Proofs.Ytlpbkdihjpceoaa
