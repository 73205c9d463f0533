/- Plain facts for package round: a quotient by high bits, the amount rounded. No program. -/
import Derived.Test.YtlfbiidnfheelaaRndF
namespace Go.Proofs.Ytlfbiidnfheelaa
set_option linter.unusedVariables false
set_option linter.unusedSimpArgs false
open Go.ChangeShapes Go.WideShapes Go.ChangeAt Go.RowKit

theorem keep1 {W0 W : World} {k : Nat} (h : Below W0.heap.size W0 W) (hk : W0.heap.size ≤ k) (j : Nat) (a : Value) : Below W0.heap.size W0 (W.setCell ⟨k, j, none⟩ a) := h.setCell (by exact hk) _
theorem row_set1 {w : World} {b : Nat} {cs : Array Value} {t : TypeId} (h : w.heap[b]? = some (.cells cs t (0, 0))) (j : Nat) (p : Value) :
    (w.setCell ⟨b, j, none⟩ p).heap[b]? = some (.cells (cs.setIfInBounds j p) t (0, 0)) := by
  simp [World.setCell, Array.getElem?_modify, h]
theorem row_other1 {w : World} {b k : Nat} {o : Option Obj} (hne : b ≠ k) (h : w.heap[b]? = o) (j : Nat) (p : Value) : (w.setCell ⟨k, j, none⟩ p).heap[b]? = o := by
  rw [Below.heap_setCell _ _ _ _ (by show b ≠ k; exact hne)]; exact h
theorem fieldW0 : ∀ (a b : Value) (w : World), (Instr.field 24 (.agg #[a, b]) 0).run Try.prog w = .ok a w := fun _ _ _ => by simp [Instr.field, go_sem, asAgg]
theorem fieldW1 : ∀ (a b : Value) (w : World), (Instr.field 24 (.agg #[a, b]) 1).run Try.prog w = .ok b w := fun _ _ _ => by simp [Instr.field, go_sem, asAgg]
theorem pow_cut {c : Nat} (h : c ≤ 64) : 2 ^ c * 2 ^ (64 - c) = 18446744073709551616 := by
  rw [← Nat.pow_add, show c + (64 - c) = 64 by omega]
theorem shifted (h l c : Nat) (hc : c ≤ 64) (hl : l < 18446744073709551616) :
    (h * 18446744073709551616 + l) / 2 ^ c = h * 2 ^ (64 - c) + l / 2 ^ c ∧ l / 2 ^ c < 2 ^ (64 - c) := by
  have e := pow_cut hc
  have p : 0 < 2 ^ c := Nat.two_pow_pos c
  constructor
  · rw [← e, Nat.mul_comm (2 ^ c), ← Nat.mul_assoc, Nat.add_comm, Nat.add_mul_div_right _ _ p, Nat.add_comm]
  · rw [Nat.div_lt_iff_lt_mul p, Nat.mul_comm, e]; exact hl
/-- a number without its lowest bits, by its halves. -/
theorem high_parts (A c : Nat) (h1 : 1 ≤ c) (h2 : c ≤ 63) (hA : A < 340282366920938463463374607431768211456) :
    zh ((A / 2 ^ c : Nat) : Int) = zh (A : Int) / 2 ^ c ∧ zl ((A / 2 ^ c : Nat) : Int) = ((zh (A : Int) * 2 ^ (64 - c)) % 18446744073709551616) ||| (zl (A : Int) / 2 ^ c) := by
  obtain ⟨a1, a2, a3⟩ := zw_hl (A : Int)
  rw [zw_nat A hA] at a1
  generalize zh (A : Int) = h at *
  generalize zl (A : Int) = l at *
  obtain ⟨s1, s2⟩ := shifted h l c (by omega) a3
  have e := pow_cut (show c ≤ 64 by omega)
  have p : 0 < 2 ^ c := Nat.two_pow_pos c
  have q : 0 < 2 ^ (64 - c) := Nat.two_pow_pos _
  have hq := Nat.div_add_mod h (2 ^ c)
  have hm := Nat.mod_lt h p
  have e2 : h * 2 ^ (64 - c) = (h / 2 ^ c) * 18446744073709551616 + (h % 2 ^ c) * 2 ^ (64 - c) := by
    rw [← e, ← Nat.mul_assoc, ← Nat.add_mul, Nat.mul_comm (h / 2 ^ c), hq]
  have e3 : (h % 2 ^ c + 1) * 2 ^ (64 - c) ≤ 18446744073709551616 := by rw [← e]; exact Nat.mul_le_mul_right _ hm
  rw [Nat.add_mul, Nat.one_mul] at e3
  have e4 : h * 2 ^ (64 - c) % 18446744073709551616 = (h % 2 ^ c) * 2 ^ (64 - c) := by
    rw [e2, Nat.mul_comm (h / 2 ^ c), Nat.mul_add_mod]; exact Nat.mod_eq_of_lt (by omega)
  have e5 : (h % 2 ^ c) * 2 ^ (64 - c) ||| l / 2 ^ c = (h % 2 ^ c) * 2 ^ (64 - c) + l / 2 ^ c := by
    have := Nat.two_pow_add_eq_or_of_lt s2 (h % 2 ^ c)
    rw [Nat.mul_comm (h % 2 ^ c)]; exact this.symm
  have e6 : zw ((A / 2 ^ c : Nat) : Int) = (h / 2 ^ c) * 18446744073709551616 + ((h % 2 ^ c) * 2 ^ (64 - c) + l / 2 ^ c) := by
    rw [zw_nat _ (Nat.lt_of_le_of_lt (Nat.div_le_self _ _) hA), a1, s1, e2, Nat.add_assoc]
  obtain ⟨r1, r2⟩ := hl_of_zw e6 (by omega)
  rw [r1, r2, e4, e5]
  exact ⟨rfl, rfl⟩
/-- the quotient by high bits is right, or one too many. -/
theorem est_div (A u k : Nat) (hk : 0 < k) (hv : A / u < u / k) : A / u ≤ A / k / (u / k) ∧ A / k / (u / k) ≤ A / u + 1 := by
  have hu : 0 < u := by
    rcases Nat.eq_zero_or_pos u with h | h
    · subst h; simp at hv
    · exact h
  have h1 : k * (u / k) ≤ u := Nat.mul_div_le u k
  have h2 : u < (u / k + 1) * k := by
    have := Nat.div_add_mod u k
    have := Nat.mod_lt u hk
    rw [Nat.add_mul, Nat.one_mul, Nat.mul_comm (u / k)]; omega
  have h3 : A < (A / u + 1) * u := by
    have := Nat.div_add_mod A u
    have := Nat.mod_lt A hu
    rw [Nat.add_mul, Nat.one_mul, Nat.mul_comm (A / u)]; omega
  rw [Nat.div_div_eq_div_mul]
  have h0 := Nat.div_mul_le_self A u
  generalize u / k = v at *
  generalize A / u = q at *
  have hkv : 0 < k * v := Nat.mul_pos hk (by omega)
  constructor
  · rw [Nat.le_div_iff_mul_le hkv]
    have h4 : q * (k * v) ≤ q * u := Nat.mul_le_mul_left q h1
    omega
  · have h5 : A < (q + 2) * (k * v) := by
      have h6 : (q + 1) * u ≤ (q + 1) * ((v + 1) * k) := Nat.mul_le_mul_left _ (by omega)
      have h7 : (q + 1) * ((v + 1) * k) ≤ (q + 2) * (k * v) := by
        have e1 : (q + 1) * ((v + 1) * k) = (q + 1) * (k * v) + (q + 1) * k := by
          rw [Nat.add_mul v 1 k, Nat.one_mul, Nat.mul_add, Nat.mul_comm v k]
        have e2 : (q + 2) * (k * v) = (q + 1) * (k * v) + k * v := by rw [show q + 2 = (q + 1) + 1 by omega, Nat.add_mul (q + 1) 1, Nat.one_mul]
        have e3 : (q + 1) * k ≤ k * v := by rw [Nat.mul_comm k v]; exact Nat.mul_le_mul_right k (by omega)
        omega
      omega
    have := (Nat.div_lt_iff_lt_mul hkv).mpr h5
    omega
/-- does what lies between go to the farther one? -/
@[irreducible] def awB (m : Int) (b o : Bool) (l : Int) : Bool :=
  if 4 ≤ m ∧ l ≠ 0 then decide (0 < l) else if m = 0 ∨ m = 7 then b else if m = 1 ∨ m = 8 then !b else if m = 3 ∨ m = 5 then true else if m = 4 then o else false
/-- an amount, rounded. -/
@[irreducible] def amtN (A u : Nat) (m : Int) (b : Bool) : Nat :=
  if A % u = 0 then A / u * u else if awB m b (!evB A u 0) (cmpI (A % u) (u - A % u)) = true then A / u * u + u else A / u * u
theorem amt_none {A u : Nat} {m : Int} {b : Bool} (h : A % u = 0) : amtN A u m b = A / u * u := by unfold amtN; exact if_pos h
theorem amt_far {A u : Nat} {m : Int} {b : Bool} (h : ¬ A % u = 0) (h2 : awB m b (!evB A u 0) (cmpI (A % u) (u - A % u)) = true) : amtN A u m b = A / u * u + u := by unfold amtN; rw [if_neg h, if_pos h2]
theorem amt_near {A u : Nat} {m : Int} {b : Bool} (h : ¬ A % u = 0) (h2 : awB m b (!evB A u 0) (cmpI (A % u) (u - A % u)) = false) : amtN A u m b = A / u * u := by unfold amtN; rw [if_neg h, if_neg (by rw [h2]; decide)]
theorem aw_up_pos {m : Int} (h0 : 0 ≤ m) (h8 : m ≤ 8) (a b : Nat) (ev : Bool) : upB m false (cmpI a b) ev = awB m false (!ev) (cmpI a b) := by
  have hm : m = 0 ∨ m = 1 ∨ m = 2 ∨ m = 3 ∨ m = 4 ∨ m = 5 ∨ m = 6 ∨ m = 7 ∨ m = 8 := by omega
  rcases cmpI_three a b with h | h | h <;> rw [h] <;> rcases hm with rfl | rfl | rfl | rfl | rfl | rfl | rfl | rfl | rfl <;> cases ev <;> unfold upB awB <;> decide
theorem cmpI_swap (a b : Nat) : cmpI a b = -cmpI b a := by
  unfold cmpI
  repeat' split
  all_goals omega
theorem aw_up_neg {m : Int} (h0 : 0 ≤ m) (h8 : m ≤ 8) (a b : Nat) (ev : Bool) : upB m true (cmpI a b) ev = !awB m true ev (cmpI b a) := by
  have hm : m = 0 ∨ m = 1 ∨ m = 2 ∨ m = 3 ∨ m = 4 ∨ m = 5 ∨ m = 6 ∨ m = 7 ∨ m = 8 := by omega
  rw [cmpI_swap a b]
  rcases cmpI_three b a with h | h | h <;> rw [h] <;> rcases hm with rfl | rfl | rfl | rfl | rfl | rfl | rfl | rfl | rfl <;> cases ev <;> unfold upB awB <;> decide
theorem amt_pos (A u : Nat) (hu : 0 < u) {m : Int} (h0 : 0 ≤ m) (h8 : m ≤ 8) : rnd (A : Int) (u : Int) m = (amtN A u m false : Int) := by
  have hm := Nat.div_add_mod A u
  rw [Nat.mul_comm] at hm
  unfold rnd nrC
  rw [← Int.natCast_emod, decide_eq_false (by omega), evQ_nat, ← Int.natCast_ediv, Int.toNat_natCast, show ((u : Int) - (A % u : Nat)).toNat = u - A % u by omega, aw_up_pos h0 h8]
  by_cases h : A % u = 0
  · rw [if_pos (by rw [h]; rfl), amt_none h]; omega
  · rw [if_neg (by omega)]
    cases h2 : awB m false (!evB A u 0) (cmpI (A % u) (u - A % u))
    · rw [amt_near h h2, if_neg (by decide), Int.natCast_mul]
    · rw [amt_far h h2, if_pos rfl, Int.natCast_add, Int.natCast_mul]
theorem amt_neg (A u : Nat) (hu : 0 < u) (hA : 0 < A) {m : Int} (h0 : 0 ≤ m) (h8 : m ≤ 8) : rnd (-(A : Int)) (u : Int) m = -(amtN A u m true : Int) := by
  have hm := Nat.div_add_mod A u
  rw [Nat.mul_comm] at hm
  have hl := Nat.mod_lt A hu
  obtain ⟨f1, f2⟩ := fl_neg A u hu
  obtain ⟨e1, e2⟩ := lft_end A u
  rw [e1, e2] at f1 f2
  have e := Int.emod_add_mul_ediv (-(A : Int)) (u : Int)
  rw [Int.mul_comm] at e
  by_cases h : A % u = 0
  · obtain ⟨g1, g2⟩ := f1 h
    unfold rnd
    rw [if_pos (by omega), amt_none h]; omega
  · obtain ⟨g1, g2⟩ := f2 h
    have er : -(A : Int) % u = (u - A % u : Nat) := by omega
    unfold rnd nrC
    rw [if_neg (by omega), er, g1, g2, decide_eq_true (by omega), Int.toNat_natCast, show ((u : Int) - (u - A % u : Nat)).toNat = A % u by omega, aw_up_neg h0 h8]
    cases h2 : awB m true (!evB A u 0) (cmpI (A % u) (u - A % u))
    · rw [amt_near h h2, if_pos (by decide)]; omega
    · rw [amt_far h h2, if_neg (by decide)]; omega
end Go.Proofs.Ytlfbiidnfheelaa
