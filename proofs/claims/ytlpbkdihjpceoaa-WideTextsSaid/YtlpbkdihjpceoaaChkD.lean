/- Contracts of package checked's division, whole. -/
import Derived.Test.YtlpbkdihjpceoaaChkC
namespace Go.Proofs.Ytlpbkdihjpceoaa
set_option linter.unusedVariables false
set_option linter.unusedSimpArgs false
open Go.ChangeShapes Go.WideShapes Go.ChangeAt Go.RowKit

theorem ediv_uniq {n d k r : Int} (hd : 0 < d) (h : n = d * k + r) (h0 : 0 ≤ r) (h1 : r < d) : n / d = k :=
  ((Int.ediv_emod_unique hd).2 ⟨by omega, h0, h1⟩).1
theorem neg_div0 {m d : Nat} (hd : 0 < d) (h : m % d = 0) : -(m : Int) / (d : Int) = -((m / d : Nat) : Int) := by
  have e := Nat.div_add_mod m d
  refine ediv_uniq (r := 0) (by omega) ?_ (by omega) (by omega)
  rw [Int.mul_neg]
  have : ((d * (m / d) : Nat) : Int) = (d : Int) * ((m / d : Nat) : Int) := Int.natCast_mul _ _
  omega
theorem neg_div1 {m d : Nat} (hd : 0 < d) (h : ¬ m % d = 0) : -(m : Int) / (d : Int) = -(((m / d : Nat) : Int) + 1) := by
  have e := Nat.div_add_mod m d
  have hr := Nat.mod_lt m hd
  refine ediv_uniq (r := (d : Int) - ((m % d : Nat) : Int)) (by omega) ?_ (by omega) (by omega)
  rw [Int.mul_neg, Int.mul_add, Int.mul_one]
  have : ((d * (m / d) : Nat) : Int) = (d : Int) * ((m / d : Nat) : Int) := Int.natCast_mul _ _
  omega
/-- n and c by their amounts and signs. -/
structure SG (n c : Int) (m d : Nat) (p z : Bool) : Prop where
  n1 : p = true → n = (m : Int)
  n0 : p = false → n = -(m : Int)
  c1 : z = true → c = -(d : Int)
  c0 : z = false → c = (d : Int)
  d : 0 < d
theorem SG.up {n c : Int} {m d : Nat} {p z : Bool} (h : SG n c m d p z) (e : ((!p) == z) = true) : fq n c = ((m / d : Nat) : Int) ∧ fr n c = sg c (m % d) := by
  have hd := h.d
  have e1 := Nat.div_add_mod m d
  have e2 : ((d * (m / d) : Nat) : Int) = (d : Int) * ((m / d : Nat) : Int) := Int.natCast_mul _ _
  have e3 : ((m / d : Nat) : Int) = (m : Int) / (d : Int) := Int.natCast_ediv _ _
  cases p <;> cases z
  · cases e
  · have hn := h.n0 rfl; have hc := h.c1 rfl
    have q : fq n c = ((m / d : Nat) : Int) := by unfold fq; rw [hn, hc, if_neg (by omega), Int.neg_neg, Int.neg_neg, e3]
    refine ⟨q, ?_⟩
    unfold fr sg
    rw [q, hn, hc, if_pos (by omega), Int.neg_mul]
    omega
  · have hn := h.n1 rfl; have hc := h.c0 rfl
    have q : fq n c = ((m / d : Nat) : Int) := by unfold fq; rw [hn, hc, if_pos (by omega), e3]
    refine ⟨q, ?_⟩
    unfold fr sg
    rw [q, hn, hc, if_neg (by omega)]
    omega
  · cases e
theorem SG.zero {n c : Int} {m d : Nat} {p z : Bool} (h : SG n c m d p z) (e : ((!p) == z) = false) (hr : m % d = 0) : fq n c = -((m / d : Nat) : Int) ∧ fr n c = sg c (m % d) := by
  have hd := h.d
  have e1 := Nat.div_add_mod m d
  have e2 : ((d * (m / d) : Nat) : Int) = (d : Int) * ((m / d : Nat) : Int) := Int.natCast_mul _ _
  have e3 := neg_div0 hd hr
  cases p <;> cases z
  · have hn := h.n0 rfl; have hc := h.c0 rfl
    have q : fq n c = -((m / d : Nat) : Int) := by unfold fq; rw [hn, hc, if_pos (by omega), e3]
    refine ⟨q, ?_⟩
    unfold fr sg
    rw [q, hn, hc, if_neg (by omega), Int.mul_neg]
    omega
  · cases e
  · cases e
  · have hn := h.n1 rfl; have hc := h.c1 rfl
    have q : fq n c = -((m / d : Nat) : Int) := by unfold fq; rw [hn, hc, if_neg (by omega), Int.neg_neg, e3]
    refine ⟨q, ?_⟩
    unfold fr sg
    rw [q, hn, hc, if_pos (by omega), Int.neg_mul_neg]
    omega
theorem SG.down {n c : Int} {m d : Nat} {p z : Bool} (h : SG n c m d p z) (e : ((!p) == z) = false) (hr : ¬ m % d = 0) : fq n c = -(((m / d : Nat) : Int) + 1) ∧ fr n c = sg c (d - m % d) := by
  have hd := h.d
  have e1 := Nat.div_add_mod m d
  have e4 := Nat.mod_lt m hd
  have e2 : ((d * (m / d) : Nat) : Int) = (d : Int) * ((m / d : Nat) : Int) := Int.natCast_mul _ _
  have e3 := neg_div1 hd hr
  cases p <;> cases z
  · have hn := h.n0 rfl; have hc := h.c0 rfl
    have q : fq n c = -(((m / d : Nat) : Int) + 1) := by unfold fq; rw [hn, hc, if_pos (by omega), e3]
    refine ⟨q, ?_⟩
    unfold fr sg
    rw [q, hn, hc, if_neg (by omega), Int.mul_neg, Int.mul_add, Int.mul_one]
    omega
  · cases e
  · cases e
  · have hn := h.n1 rfl; have hc := h.c1 rfl
    have q : fq n c = -(((m / d : Nat) : Int) + 1) := by unfold fq; rw [hn, hc, if_neg (by omega), Int.neg_neg, e3]
    refine ⟨q, ?_⟩
    unfold fr sg
    rw [q, hn, hc, if_pos (by omega), Int.neg_mul_neg, Int.mul_add, Int.mul_one]
    omega
theorem SG.of_prod {a b c : Int} (hc : c ≠ 0) : SG (a * b) c (a.natAbs * b.natAbs) c.natAbs (decide (a < 0) == decide (b < 0)) (decide (c < 0)) :=
  ⟨fun h => (mul_same (by simpa using h)).symm, fun h => (mul_diff (by cases h1 : decide (a < 0) <;> cases h2 : decide (b < 0) <;> simp_all)).symm, fun h => by have := of_decide_eq_true h; omega, fun h => by have := of_decide_eq_false h; omega, by omega⟩
theorem prod_U {a b : Int} (ba : in64 a) (bb : in64 b) : a.natAbs * b.natAbs ≤ 85070591730234615865843651857942052864 := by
  have h1 : a.natAbs * b.natAbs ≤ 9223372036854775808 * 9223372036854775808 := by
    unfold in64 at ba bb
    exact Nat.mul_le_mul (by omega) (by omega)
  exact h1
end Go.Proofs.Ytlpbkdihjpceoaa
