/- Contracts: the plain answer's text; below 0 and amount of package wide. -/
import Derived.Test.YtlpbkdihjpceoaaTextA
import Derived.Test.YtlpbkdihjpceoaaPkgA
import Derived.WalkKit
import Derived.ProofKit
import Derived.OpenShut
import Derived.Handy
import Derived.Outline
import Derived.Lib.Hide
import Derived.WalkSpells
import Derived.WalkLawsBesides
namespace Go.Proofs.Ytlpbkdihjpceoaa
set_option linter.unusedVariables false
open Go.ChangeShapes Go.WideShapes Go.ChangeAt Go.RowKit

/-- the amount. -/
def amt (h l : Nat) : Nat := if neg h then 340282366920938463463374607431768211456 - num h l else num h l
theorem amt_lt {h l : Nat} (u : U h) (v : U l) : amt h l < 340282366920938463463374607431768211456 := by
  have := num_lt u v
  unfold amt
  by_cases n : neg h = true
  · rw [if_pos n]; have : 0 < num h l := by (unfold neg at n; rw [decide_eq_true_eq] at n; unfold num; omega)
    omega
  · rw [if_neg n]; exact this
def txt (h l : Nat) : List UInt8 := if neg h then 45 :: dg (amt h l) else dg (amt h l)
theorem dg_len (n k : Nat) (h : n < 10 ^ (k + 1)) : (dg n).length ≤ k + 1 := by
  induction k generalizing n with
  | zero => rw [dg_step, if_pos (by rw [Nat.zero_add, Nat.pow_one] at h; omega)]; simp
  | succ k ih =>
    rw [dg_step]
    by_cases h0 : n / 10 = 0
    · rw [if_pos h0]; simp
    · rw [if_neg h0]; have := ih (n / 10) (by rw [Nat.pow_succ] at h; omega)
      simp; omega

set_option maxHeartbeats 400000 in
set_option maxRecDepth 100000 in
theorem refText_pos (h l : Nat) (u : U h) (v : U l) (hn : neg h = false) (w : World) :
    Calls Try.prog 12 #[.agg #[.int .u64 h, .int .u64 l]] w fun e w' => e = .returned (.string ⟨(txt h l).toArray⟩) ∧ Below w.heap.size w w' := by
  have e1 : txt h l = dg (num h l) := by unfold txt amt; rw [if_neg (by rw [hn]; decide), if_neg (by rw [hn]; decide)]
  have hbn := below_any h l
  rw [hn] at hbn
  have HB := Lib.hid hbn
  clear hbn
  have hd := digits_any h l u v
  generalize dg (num h l) = st at *
  have E1 := Lib.hid e1
  have HD := Lib.hid hd
  clear hd
  have HN := Lib.hid hn
  clear e1 hn
  go_enter Try.func12, Try.ntmps12
  go_wp2_with fail
  refine (HB.out _).mono ?_
  rintro e w1 ⟨rfl, hb1⟩
  obtain ⟨hc, hf⟩ := bcell hb1
  have HB1 := Lib.hid (((Below.refl w.heap.size w).alloc (Nat.le_refl _) _).trans (hb1.mono (by simp)))
  clear hb1
  go_wp2_with fail
  refine (HD.out _).mono ?_
  rintro e w2 ⟨rfl, hb2⟩
  have HB2 := Lib.hid (HB1.out.trans (hb2.mono HB1.out.size))
  clear hb2
  go_wp2
  go_ret
  exact ⟨by rw [E1.out]; rfl, HB2.out⟩

set_option maxHeartbeats 400000 in
set_option maxRecDepth 100000 in
theorem refText_neg (h l : Nat) (u : U h) (v : U l) (hn : neg h = true) (w : World) :
    Calls Try.prog 12 #[.agg #[.int .u64 h, .int .u64 l]] w fun e w' => e = .returned (.string ⟨(txt h l).toArray⟩) ∧ Below w.heap.size w w' := by
  have e1 : txt h l = 45 :: dg (340282366920938463463374607431768211456 - num h l) := by unfold txt amt; rw [if_pos hn, if_pos hn]
  have h2 : 340282366920938463463374607431768211456 - num h l < 340282366920938463463374607431768211456 := by have := amt_lt u v; unfold amt at this; rw [if_pos hn] at this; exact this
  have hlen2 : (dg (340282366920938463463374607431768211456 - num h l)).length ≤ 39 := dg_len _ 38 (Nat.lt_trans h2 (by decide))
  have hg := refNeg_any h l u v
  generalize 340282366920938463463374607431768211456 - num h l = m at *
  have hd := digits_any (hi m) (lo m) (hi_U _) (lo_U _)
  rw [num_hl_of h2] at hd
  have E1 := Lib.hid e1
  have hbn := below_any h l
  rw [hn] at hbn
  have HB := Lib.hid hbn
  clear hbn
  have HD := Lib.hid hd
  have HG := Lib.hid hg
  have HN := Lib.hid hn
  have hst : ¬ (9223372036854775807 < 1 + (dg m).length) := by omega
  clear e1 hn hd hg h2 hlen2
  go_enter Try.func12, Try.ntmps12
  go_wp2_with fail
  refine (HB.out _).mono ?_
  rintro e w1 ⟨rfl, hb1⟩
  obtain ⟨hc, hf⟩ := bcell hb1
  have HB1 := Lib.hid (((Below.refl w.heap.size w).alloc (Nat.le_refl _) _).trans (hb1.mono (by simp)))
  clear hb1
  go_wp2_with fail
  refine (HG.out _).mono ?_
  rintro e w2 ⟨rfl, hb2⟩
  have HB2 := Lib.hid (HB1.out.trans (hb2.mono HB1.out.size))
  clear hb2
  go_wp2_with fail
  refine (HD.out _).mono ?_
  rintro e w3 ⟨rfl, hb3⟩
  have HB3 := Lib.hid (HB2.out.trans (hb3.mono HB2.out.size))
  clear hb3
  go_wp2
  go_ret
  exact ⟨by rw [E1.out]; exact congrArg (fun b => Ending.returned (.string b)) (str_app [45] (dg m)), HB3.out⟩

theorem refText_any (h l : Nat) (u : U h) (v : U l) (w : World) :
    Calls Try.prog 12 #[.agg #[.int .u64 h, .int .u64 l]] w fun e w' => e = .returned (.string ⟨(txt h l).toArray⟩) ∧ Below w.heap.size w w' := by
  cases hn : neg h
  · exact refText_pos h l u v hn w
  · exact refText_neg h l u v hn w

theorem and_top (h : Nat) (u : U h) : (bits .and .u64 (h : Int) 9223372036854775808 != 0) = neg h := by
  have := u64_and_nat h 9223372036854775808 u (by omega)
  rw [show ((9223372036854775808 : Nat) : Int) = 9223372036854775808 from rfl] at this
  rw [this]
  unfold neg
  have hp : ∀ i, Nat.testBit 9223372036854775808 i = decide (63 = i) := fun i => by rw [show (9223372036854775808 : Nat) = 2 ^ 63 from rfl, Nat.testBit_two_pow]
  have h2 : h &&& 9223372036854775808 = if h.testBit 63 then 9223372036854775808 else 0 := by
    apply Nat.eq_of_testBit_eq
    intro i
    rw [Nat.testBit_and, hp]
    by_cases hi : i = 63
    · subst hi
      cases ht : h.testBit 63
      · simp
      · rw [if_pos rfl, hp]; simp
    · rw [decide_eq_false (Ne.symm hi), Bool.and_false]
      cases ht : h.testBit 63
      · simp
      · rw [if_pos rfl, hp, decide_eq_false (Ne.symm hi)]
  have h3 : h.testBit 63 = decide (9223372036854775808 ≤ h) := by
    rw [Nat.testBit_eq_decide_div_mod_eq, decide_eq_decide]; unfold U at u; omega
  rw [h2, h3]
  by_cases hn : 9223372036854775808 ≤ h
  · rw [decide_eq_true hn]; decide
  · rw [decide_eq_false hn]; decide
theorem negative_any (h l : Nat) (u : U h) (w : World) : Calls Try.prog 32 #[.agg #[.int .u64 h, .int .u64 l]] w fun e w' => e = .returned (.bool (neg h)) ∧ Below w.heap.size w w' := by
  have HT := Lib.hid (and_top h u)
  go_enter Try.func32, Try.ntmps32
  go_wp2
  go_ret
  exact ⟨ret_bool HT.out, (Below.refl _ _).alloc (Nat.le_refl _) _⟩

set_option maxHeartbeats 400000 in
set_option maxRecDepth 100000 in
theorem amount_any (h l : Nat) (u : U h) (v : U l) (w : World) : Calls Try.prog 30 #[.agg #[.int .u64 h, .int .u64 l]] w fun e w' => e = .returned (.agg #[.int .u64 (hi (amt h l)), .int .u64 (lo (amt h l))]) ∧ Below w.heap.size w w' := by
  cases hn : neg h
  · have E1 := Lib.hid (show hi (amt h l) = h by unfold amt; rw [if_neg (by rw [hn]; decide)]; exact hi_num u v)
    have E2 := Lib.hid (show lo (amt h l) = l by unfold amt; rw [if_neg (by rw [hn]; decide)]; exact lo_num v)
    have hbn := negative_any h l u
    rw [hn] at hbn
    have HB := Lib.hid hbn
    clear hbn
    clear hn
    go_enter Try.func30, Try.ntmps30
    go_wp2_with fail
    refine (HB.out _).mono ?_
    rintro e w1 ⟨rfl, hb1⟩
    obtain ⟨hc, hf⟩ := bcell hb1
    have HB1 := Lib.hid ((below2 w _ _).trans (hb1.mono (by simp; omega)))
    have hz : w.heap.size + 1 < w1.heap.size := by have := hb1.size; simp at this; omega
    clear hb1
    go_wp2
    refine bodyPost_ret (v := .agg #[.int .u64 h, .int .u64 l]) (by simp [results, Try.results30, go_sem, hc]) rfl ⟨by rw [E1.out, E2.out], ?_⟩
    exact (HB1.out.setCell (by show w.heap.size ≤ w.heap.size + 1; omega) _).setCell (by show w.heap.size ≤ w.heap.size + 1; omega) _
  · have hg := neg_any h l u v
    rw [show 340282366920938463463374607431768211456 - num h l = amt h l by unfold amt; rw [if_pos hn]] at hg
    have HG := Lib.hid hg
    have hbn := negative_any h l u
    rw [hn] at hbn
    have HB := Lib.hid hbn
    clear hbn
    clear hn hg
    generalize amt h l = m at *
    go_enter Try.func30, Try.ntmps30
    go_wp2_with fail
    refine (HB.out _).mono ?_
    rintro e w1 ⟨rfl, hb1⟩
    obtain ⟨hc, hf⟩ := bcell hb1
    have HB1 := Lib.hid ((below2 w _ _).trans (hb1.mono (by simp; omega)))
    have hz : w.heap.size + 1 < w1.heap.size := by have := hb1.size; simp at this; omega
    have HZ := Lib.hid hz
    clear hb1
    go_wp2_with fail
    refine (HG.out _).mono ?_
    rintro e w2 ⟨rfl, hb2⟩
    have k0 : w2.cell? ⟨w.heap.size + 1, 0, none⟩ = some (.int .u64 0) := by rw [hb2.cell (p := ⟨w.heap.size + 1, 0, none⟩) hz, hc _ _ (by simp)]; simp [go_sem]
    have k1 : w2.cell? ⟨w.heap.size + 1, 1, none⟩ = some (.int .u64 0) := by rw [hb2.cell (p := ⟨w.heap.size + 1, 1, none⟩) hz, hc _ _ (by simp)]; simp [go_sem]
    have g0 : w2.frozen? ⟨w.heap.size + 1, 0, none⟩ = false := by rw [hb2.frozen (p := ⟨w.heap.size + 1, 0, none⟩) hz, hf _ _ (by simp)]; simp [go_sem]
    have g1 : w2.frozen? ⟨w.heap.size + 1, 1, none⟩ = false := by rw [hb2.frozen (p := ⟨w.heap.size + 1, 1, none⟩) hz, hf _ _ (by simp)]; simp [go_sem]
    have HB2 := Lib.hid (HB1.out.trans (hb2.mono HB1.out.size))
    clear hb2 hc hf hz
    go_wp2
    refine bodyPost_ret (v := .agg #[.int .u64 (hi m), .int .u64 (lo m)]) (by simp [results, Try.results30, go_sem, k0, k1]) rfl ⟨rfl, ?_⟩
    exact (HB2.out.setCell (by show w.heap.size ≤ w.heap.size + 1; omega) _).setCell (by show w.heap.size ≤ w.heap.size + 1; omega) _
end Go.Proofs.Ytlpbkdihjpceoaa
