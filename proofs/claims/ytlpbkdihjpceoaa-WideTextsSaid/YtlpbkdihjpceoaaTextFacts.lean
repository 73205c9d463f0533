/- Plain facts: digits there and back. No program. -/
import Derived.Test.YtlpbkdihjpceoaaParseF
import Derived.Test.YtlpbkdihjpceoaaTextC
import Derived.Test.YtlpbkdihjpceoaaZPlain
namespace Go.Proofs.Ytlpbkdihjpceoaa
set_option linter.unusedVariables false
open Go.ChangeShapes Go.WideShapes Go.ChangeAt Go.RowKit

theorem dch_nat (d : Nat) (h : d < 10) : (dch d).toNat = 48 + d := by
  have := dch_val d h; omega
theorem val10_snoc (a : List UInt8) (c : UInt8) : val10 (a ++ [c]) = val10 a * 10 + (c.toNat - 48) := by
  unfold val10; rw [List.foldl_append]; rfl
theorem dg_val (n : Nat) : val10 (dg n) = n := by
  induction n using Nat.strongRecOn with
  | ind n ih =>
    rw [dg_step n, val10_snoc, dch_nat _ (Nat.mod_lt _ (by omega))]
    by_cases h : n / 10 = 0
    · rw [if_pos h]
      show 0 * 10 + _ = _
      omega
    · rw [if_neg h, ih (n / 10) (by omega)]; omega
theorem isd_dch (d : Nat) (h : d < 10) : isd (dch d) = true := by
  unfold isd; rw [dch_nat d h]; simp; omega
theorem dg_all (n : Nat) : (dg n).all isd = true := by
  induction n using Nat.strongRecOn with
  | ind n ih =>
    rw [dg_step n, List.all_append]
    have h1 : ([dch (n % 10)].all isd) = true := by simp [isd_dch _ (Nat.mod_lt n (show 0 < 10 by omega))]
    rw [h1, Bool.and_true]
    by_cases h : n / 10 = 0
    · rw [if_pos h]; rfl
    · rw [if_neg h]; exact ih (n / 10) (by omega)
theorem dg_ne (n : Nat) : dg n ≠ [] := by rw [dg_step n]; simp
theorem dg_head (n : Nat) (hn : n ≠ 0) : (dg n).head? ≠ some 48 := by
  induction n using Nat.strongRecOn with
  | ind n ih =>
    rw [dg_step n]
    by_cases h : n / 10 = 0
    · rw [if_pos h]
      show some (dch (n % 10)) ≠ some 48
      intro hc
      have h1 := congrArg UInt8.toNat (Option.some.inj hc)
      rw [dch_nat _ (Nat.mod_lt _ (by omega))] at h1
      have h2 : (48 : UInt8).toNat = 48 := rfl
      omega
    · rw [if_neg h]
      have h3 := ih (n / 10) (by omega) h
      have h4 := dg_ne (n / 10)
      cases hd : dg (n / 10) with
      | nil => exact absurd hd h4
      | cons c r => rw [hd] at h3; exact h3
theorem dg_zero : dg 0 = [48] := by rw [dg_step]; rfl
theorem dg_plain (n : Nat) : plainB (dg n) = true := by
  unfold plainB
  rw [dg_all n, Bool.and_true]
  by_cases h : n = 0
  · subst h; rw [dg_zero]; rfl
  · have h1 := dg_head n h
    have h2 := dg_ne n
    cases hd : dg n with
    | nil => exact absurd hd h2
    | cons c r =>
      rw [hd] at h1
      have h3 : ((c :: r).head? == some 48) = false := by rw [beq_eq_false_iff_ne]; exact h1
      rw [h3]; rfl
/-- of digits, the one way back: dg of the number. -/
theorem dg_back (L : List UInt8) : ∀ n, L.length = n → plainB L = true → dg (val10 L) = L := by
  intro n
  induction n generalizing L with
  | zero => intro hl hp; have : L = [] := List.length_eq_zero_iff.1 hl; subst this; cases hp
  | succ n ih =>
    intro hl hp
    have hne : L ≠ [] := by intro h; subst h; cases hl
    obtain ⟨A, c, rfl⟩ : ∃ A c, L = A ++ [c] := ⟨L.dropLast, L.getLast hne, (List.dropLast_concat_getLast hne).symm⟩
    have hall := plainB_all hp
    rw [List.all_append, Bool.and_eq_true] at hall
    have hc : isd c = true := by simpa using hall.2
    unfold isd at hc
    rw [Bool.and_eq_true, decide_eq_true_eq, decide_eq_true_eq] at hc
    have hcc : dch (c.toNat - 48) = c := by
      unfold dch
      rw [show 48 + (c.toNat - 48) = c.toNat by omega]
      exact UInt8.ofNat_toNat
    rw [dg_step, val10_snoc]
    by_cases hA : A = []
    · subst hA
      have h0 : val10 [] = 0 := rfl
      rw [h0, if_pos (by omega), show (0 * 10 + (c.toNat - 48)) % 10 = c.toNat - 48 by omega, hcc]
    · have hpA : plainB A = true := by
        unfold plainB at hp ⊢
        rw [hall.1, Bool.and_true]
        rw [Bool.and_eq_true] at hp
        have h1 := hp.1
        cases A with
        | nil => exact absurd rfl hA
        | cons x r =>
          simp at h1 ⊢
          first | exact Or.inl h1 | exact Or.inl (by intro hx; simp [hx] at h1) | (trace_state; sorry)
      have hpos : 0 < val10 A := val10_pos hpA (by
        intro h
        subst h
        rw [plainB] at hp
        simp at hp)
      rw [if_neg (by omega), show (val10 A * 10 + (c.toNat - 48)) / 10 = val10 A by omega, show (val10 A * 10 + (c.toNat - 48)) % 10 = c.toNat - 48 by omega, hcc, ih A (by simpa using hl) hpA]

theorem digit_not_minus {B : List UInt8} (hp : plainB B = true) : Lib.hasPrefix B [45] = false := by
  have ha := plainB_all hp
  cases B with
  | nil => rfl
  | cons c r =>
    rw [List.all_cons, Bool.and_eq_true] at ha
    have h1 := ha.1
    unfold isd at h1
    rw [Bool.and_eq_true, decide_eq_true_eq, decide_eq_true_eq] at h1
    unfold Lib.hasPrefix
    have h2 : ((45 : UInt8) == c) = false := by
      rw [beq_eq_false_iff_ne]
      intro h
      have : (45 : UInt8).toNat = 45 := rfl
      rw [h] at this
      omega
    simp [List.isPrefixOf, h2]
theorem body_digits {B : List UInt8} (hp : plainB B = true) : isNeg B = false ∧ body B = B := by
  have h := digit_not_minus hp
  refine ⟨h, ?_⟩
  unfold body Lib.trimPrefix
  rw [h]; rfl
theorem body_minus (B : List UInt8) : isNeg (45 :: B) = true ∧ body (45 :: B) = B := by
  have h : Lib.hasPrefix (45 :: B) [45] = true := by unfold Lib.hasPrefix; simp [List.isPrefixOf]
  refine ⟨h, ?_⟩
  unfold body Lib.trimPrefix
  rw [h]; rfl
theorem minus_of {t : List UInt8} (h : isNeg t = true) : t = 45 :: body t := by
  unfold isNeg Lib.hasPrefix at h
  cases t with
  | nil => cases h
  | cons c r =>
    have hc : (45 : UInt8) = c := by simpa [List.isPrefixOf] using h
    subst hc
    rw [(body_minus r).2]
theorem body_none {t : List UInt8} (h : isNeg t = false) : body t = t := by
  unfold isNeg at h
  unfold body Lib.trimPrefix
  rw [h]; rfl
theorem dg_len40 {n : Nat} (h : n < 340282366920938463463374607431768211456) : (dg n).length ≤ 39 := dg_len n 38 (by omega)
/-- a number's text is read as that number. -/
theorem txt_parse (h l : Nat) (u : U h) (v : U l) : pErr (txt h l) = 0 ∧ pNum (txt h l) = num h l := by
  have hb := num_bd u v
  have hl := num_lt u v
  cases hn : neg h
  · have ha : amt h l = num h l := by unfold amt; rw [if_neg (by rw [hn]; decide)]
    have ht : txt h l = dg (num h l) := by unfold txt; rw [if_neg (by rw [hn]; decide), ha]
    have hp := dg_plain (num h l)
    obtain ⟨b1, b2⟩ := body_digits hp
    have hbad : badForm (dg (num h l)) = false := by unfold badForm; rw [b1, b2, hp]; rfl
    have hout : outOf (dg (num h l)) = false := by unfold outOf; rw [if_neg (by rw [b1]; decide), b2, dg_val]; have := hb.2 hn; exact decide_eq_false (by omega)
    have hlen := dg_len40 hl
    have he : pErr (dg (num h l)) = 0 := by rw [pErr_of (by omega) hbad, if_neg (by rw [hout]; decide)]
    rw [ht]
    refine ⟨he, ?_⟩
    unfold pNum
    rw [if_pos he, if_neg (by rw [b1]; decide), b2, dg_val]
  · have ha : amt h l = 340282366920938463463374607431768211456 - num h l := by unfold amt; rw [if_pos hn]
    have ht : txt h l = 45 :: dg (amt h l) := by unfold txt; rw [if_pos hn]
    have hx := hb.1 hn
    have h0 : amt h l ≠ 0 := by omega
    obtain ⟨b1, b2⟩ := body_minus (dg (amt h l))
    have hp := dg_plain (amt h l)
    have hnz : ¬ dg (amt h l) = [48] := by
      intro hc
      have := dg_val (amt h l)
      rw [hc] at this
      exact h0 this.symm
    have hbad : badForm (45 :: dg (amt h l)) = false := by unfold badForm; rw [b1, b2, hp, decide_eq_false hnz]; rfl
    have hout : outOf (45 :: dg (amt h l)) = false := by unfold outOf; rw [if_pos b1, b2, dg_val]; exact decide_eq_false (by omega)
    have hlen := dg_len40 (amt_lt u v)
    have he : pErr (45 :: dg (amt h l)) = 0 := by rw [pErr_of (by rw [List.length_cons]; omega) hbad, if_neg (by rw [hout]; decide)]
    rw [ht]
    refine ⟨he, ?_⟩
    unfold pNum
    rw [if_pos he, if_pos b1, b2, dg_val]; omega
/-- what a text is read as, shown, is the text. -/
theorem parse_txt (t : List UInt8) (he : pErr t = 0) : txt (hi (pNum t)) (lo (pNum t)) = t := by
  have hlen : ¬ 64 < t.length := by intro h; unfold pErr at he; rw [if_pos h] at he; cases he
  have hbad : badForm t = false := by
    cases hb : badForm t
    · rfl
    · unfold pErr at he; rw [if_neg hlen, hb] at he; cases he
  have hout : outOf t = false := by
    cases ho : outOf t
    · rfl
    · rw [pErr_of hlen hbad, ho] at he; cases he
  have hp : plainB (body t) = true := by
    unfold badForm at hbad
    cases h : plainB (body t)
    · rw [h] at hbad; cases hbad
    · rfl
  have hdg : dg (val10 (body t)) = body t := dg_back _ _ rfl hp
  cases hn : isNeg t
  · have hv : val10 (body t) < 170141183460469231731687303715884105728 := by
      unfold outOf at hout; rw [if_neg (by rw [hn]; decide)] at hout
      have := of_decide_eq_false hout
      omega
    have hN : pNum t = val10 (body t) := by unfold pNum; rw [if_pos he, if_neg (by rw [hn]; decide)]
    have hng : neg (hi (val10 (body t))) = false := by rw [neg_hi _ (by omega)]; exact decide_eq_false (by omega)
    rw [hN]
    unfold txt amt
    rw [if_neg (by rw [hng]; decide), if_neg (by rw [hng]; decide), num_hl_of (by omega), hdg]
    exact body_none hn
  · have hv : val10 (body t) ≤ 170141183460469231731687303715884105728 := by
      unfold outOf at hout; rw [if_pos hn] at hout
      have := of_decide_eq_false hout
      omega
    have h0 : ¬ body t = [48] := by
      intro h
      unfold badForm at hbad; rw [hp, hn, decide_eq_true h] at hbad; cases hbad
    have hpos := val10_pos hp h0
    have hN : pNum t = 340282366920938463463374607431768211456 - val10 (body t) := by unfold pNum; rw [if_pos he, if_pos hn]
    have hng : neg (hi (340282366920938463463374607431768211456 - val10 (body t))) = true := by rw [neg_hi _ (by omega)]; exact decide_eq_true (by omega)
    rw [hN]
    unfold txt amt
    rw [if_pos hng, if_pos hng, num_hl_of (by omega), show 340282366920938463463374607431768211456 - (340282366920938463463374607431768211456 - val10 (body t)) = val10 (body t) by omega, hdg]
    exact (minus_of hn).symm
end Go.Proofs.Ytlpbkdihjpceoaa
