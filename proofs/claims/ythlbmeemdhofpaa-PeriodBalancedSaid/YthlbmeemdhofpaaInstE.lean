/- Contracts of package instant: sums, differences, the order. -/
import Derived.Test.YthlbmeemdhofpaaInstD
import Derived.Test.YthlbmeemdhofpaaShelf
import Derived.Test.YthlbmeemdhofpaaLotP
namespace Go.Proofs.Ythlbmeemdhofpaa
set_option linter.unusedVariables false
set_option linter.unusedSimpArgs false
open Go.ChangeShapes Go.WideShapes Go.ChangeAt Go.RowKit

/-- an instant's and a duration's sum. -/
@[irreducible] def adE (s n d m : Int) : Int := if wmB m = false then 5 else if ckI s n = 0 then tkE (-377705116800) 253402300799 (nanos s n + nanos d m) else ckI s n
@[irreducible] def adS (s n d m : Int) : Int := if wmB m = false then 0 else if ckI s n = 0 then tkS (-377705116800) 253402300799 (nanos s n + nanos d m) else 0
@[irreducible] def adN (s n d m : Int) : Int := if wmB m = false then 0 else if ckI s n = 0 then tkN (-377705116800) 253402300799 (nanos s n + nanos d m) else 0
theorem ad_form {s n d m : Int} (h : wmB m = false) : adE s n d m = 5 ∧ adS s n d m = 0 ∧ adN s n d m = 0 := by
  unfold adE adS adN; exact ⟨if_pos h, if_pos h, if_pos h⟩
theorem ad_err {s n d m : Int} (h : wmB m = true) (hc : ckI s n ≠ 0) : adE s n d m = ckI s n ∧ adS s n d m = 0 ∧ adN s n d m = 0 := by
  have h2 : ¬ wmB m = false := by rw [h]; decide
  unfold adE adS adN; rw [if_neg h2, if_neg h2, if_neg h2]; exact ⟨if_neg hc, if_neg hc, if_neg hc⟩
theorem ad_sum {s n d m : Int} (h : wmB m = true) (hc : ckI s n = 0) : adE s n d m = tkE (-377705116800) 253402300799 (nanos s n + nanos d m) ∧ adS s n d m = tkS (-377705116800) 253402300799 (nanos s n + nanos d m) ∧ adN s n d m = tkN (-377705116800) 253402300799 (nanos s n + nanos d m) := by
  have h2 : ¬ wmB m = false := by rw [h]; decide
  unfold adE adS adN; rw [if_neg h2, if_neg h2, if_neg h2]; exact ⟨if_pos hc, if_pos hc, if_pos hc⟩
theorem sum_in {s n d m : Int} (bs : in64 s) (bn : in64 n) (bd : in64 d) (bm : in64 m) : in128 (nanos s n + nanos d m) ∧ in128 (nanos s n - nanos d m) := by unfold in64 at *; unfold in128 nanos; omega
theorem fs_ad {s n d m : Int} (h : ckI s n = 0 → ckD d m = 0 → False) : fsI (ckI s n) (ckD d m) ≠ 0 ∧ adE s n d m = fsI (ckI s n) (ckD d m) ∧ adS s n d m = 0 ∧ adN s n d m = 0 := by
  cases hw : wmB m
  · obtain ⟨t1, t2, t3⟩ := ad_form (s := s) (n := n) (d := d) hw
    rw [ckD_wm hw, t1, t2, t3]
    have : fsI (ckI s n) 5 = 5 := by
      unfold fsI
      rcases ckI_three s n with h | h | h <;> rw [h] <;> rfl
    rw [this]
    exact ⟨by decide, rfl, rfl, rfl⟩
  · by_cases hc : ckI s n = 0
    · have h8 : ckD d m = 8 := by
        rcases ckD_three d m with h1 | h1 | h1
        · exact absurd h1 (h hc)
        · exfalso
          unfold ckD at h1
          rw [if_pos hw] at h1
          split at h1 <;> omega
        · exact h1
      obtain ⟨t1, t2, t3⟩ := ad_sum (d := d) hw hc
      obtain ⟨_, o1⟩ := of_ckD8 h8
      obtain ⟨o2, o3, o4⟩ := of_ckI hc
      have o5 := of_wmB o2
      have o6 := of_wmB hw
      have hn : ¬ (-377705116800 ≤ (nanos s n + nanos d m) / 1000000000 ∧ (nanos s n + nanos d m) / 1000000000 ≤ 253402300799) := by unfold nanos; omega
      obtain ⟨u1, u2, u3⟩ := tk_no hn
      rw [t1, t2, t3, u1, u2, u3, hc, h8]
      exact ⟨by unfold fsI; decide, by unfold fsI; decide, rfl, rfl⟩
    · obtain ⟨t1, t2, t3⟩ := ad_err (d := d) hw hc
      rw [t1, t2, t3]
      have hd : ckD d m = 0 ∨ ckD d m = 8 := by
        unfold ckD; rw [if_pos hw]; split
        · exact Or.inr rfl
        · exact Or.inl rfl
      have : fsI (ckI s n) (ckD d m) = ckI s n := by
        unfold fsI
        rcases ckI_three s n with h | h | h
        · exact absurd h hc
        · rcases hd with h2 | h2 <;> rw [h, h2] <;> rfl
        · rcases hd with h2 | h2 <;> rw [h, h2] <;> rfl
      rw [this]
      exact ⟨hc, rfl, rfl, rfl⟩
end Go.Proofs.Ythlbmeemdhofpaa
