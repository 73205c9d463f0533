/- Contracts of package instant: differences, the order. -/
import Derived.Test.YthlbmeemdhofpaaInstE
import Derived.Lib.Small
import Derived.Test.YthlbmeemdhofpaaLotP
namespace Go.Proofs.Ythlbmeemdhofpaa
set_option linter.unusedVariables false
set_option linter.unusedSimpArgs false
open Go.ChangeShapes Go.WideShapes Go.ChangeAt Go.RowKit

/-- two instants' difference. -/
@[irreducible] def sbS (s n d m : Int) : Int := if fsI (ckI s n) (ckI d m) = 0 then (nanos s n - nanos d m) / 1000000000 else 0
@[irreducible] def sbN (s n d m : Int) : Int := if fsI (ckI s n) (ckI d m) = 0 then (nanos s n - nanos d m) % 1000000000 else 0
theorem sb_ok {s n d m : Int} (h : fsI (ckI s n) (ckI d m) = 0) : sbS s n d m = (nanos s n - nanos d m) / 1000000000 ∧ sbN s n d m = (nanos s n - nanos d m) % 1000000000 := by
  unfold sbS sbN; exact ⟨if_pos h, if_pos h⟩
theorem sb_no {s n d m : Int} (h : fsI (ckI s n) (ckI d m) ≠ 0) : sbS s n d m = 0 ∧ sbN s n d m = 0 := by
  unfold sbS sbN; exact ⟨if_neg h, if_neg h⟩
theorem ckI_nonneg (s n : Int) : 0 ≤ ckI s n := by rcases ckI_three s n with h | h | h <;> rw [h] <;> decide
theorem fs_zero {x y : Int} (h : fsI x y = 0) : x = 0 ∧ y = 0 := by
  unfold fsI at h
  by_cases h1 : x = 0
  · rw [if_pos h1] at h; exact ⟨h1, h⟩
  · rw [if_neg h1] at h
    by_cases h2 : y = 0
    · rw [if_pos h2] at h; exact absurd h h1
    · rw [if_neg h2] at h
      split at h
      · exact absurd h h2
      · exact absurd h h1
/-- within range: the parts of a difference. -/
theorem sb_in {s n d m : Int} (h : fsI (ckI s n) (ckI d m) = 0) : -1099511627776 ≤ (nanos s n - nanos d m) / 1000000000 ∧ (nanos s n - nanos d m) / 1000000000 ≤ 1099511627776 := by
  obtain ⟨h1, h2⟩ := fs_zero h
  obtain ⟨o2, o3, o4⟩ := of_ckI h1
  obtain ⟨p2, p3, p4⟩ := of_ckI h2
  have o5 := of_wmB o2
  have p5 := of_wmB p2
  unfold nanos
  omega
theorem compareI (x y : Int) : Lib.compareInt x y = ordI x y := by
  unfold Lib.compareInt ordI
  rfl
def orI (x y : Int) : Int := if x = 0 then y else x
theorem ord_or (a b c d : Int) : orI (ordI a c) (ordI b d) = ord2 a b c d := by
  unfold orI ord2
  by_cases h : a = c
  · subst h
    have e : ordI a a = 0 := by unfold ordI; rw [if_neg (by omega), if_neg (by omega)]
    rw [if_pos rfl, if_pos e]
  · have e : ordI a c ≠ 0 := by
      unfold ordI
      split
      · decide
      · split
        · decide
        · omega
    rw [if_neg h, if_neg e]
end Go.Proofs.Ythlbmeemdhofpaa
