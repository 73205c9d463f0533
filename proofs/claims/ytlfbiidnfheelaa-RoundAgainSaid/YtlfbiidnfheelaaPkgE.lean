/- Contracts of package wide: the order from 0 on. -/
import Derived.Test.YtlfbiidnfheelaaPkgA
import Derived.WalkKit
import Derived.ProofKit
import Derived.OpenShut
import Derived.Handy
import Derived.Outline
import Derived.Lib.Hide
import Derived.Deep.RegionHeld3
namespace Go.Proofs.Ytlfbiidnfheelaa
set_option linter.unusedVariables false
open Go.ChangeShapes Go.WideShapes Go.ChangeAt Go.RowKit

set_option maxHeartbeats 300000 in
set_option maxRecDepth 100000 in
theorem cmp_any (h1 l1 h2 l2 : Nat) (u1 : U h1) (v1 : U l1) (u2 : U h2) (v2 : U l2) (w : World) :
    Calls Try.prog 44 #[.agg #[.int .u64 h1, .int .u64 l1], .agg #[.int .u64 h2, .int .u64 l2]] w fun e w' => e = .returned (.int .i64 (cmpI (num h1 l1) (num h2 l2))) ∧ Below w.heap.size w w' := by
  have hs := sub_any h1 l1 h2 l2 u1 v1 u2 v2
  have hne := @num_eq h1 l1 h2 l2 v1 v2
  by_cases hq : h1 = h2 ∧ l1 = l2
  · obtain ⟨rfl, rfl⟩ := hq
    have HR := Lib.hid (show cmpI (num h1 l1) (num h1 l1) = 0 by simp [cmpI])
    clear hs hne
    go_enter Try.func44, Try.ntmps44
    go_wp2
    go_ret
    exact ⟨by rw [HR.out]; rfl, below2 _ _ _⟩
  · have hn : ¬ num h1 l1 = num h2 l2 := fun h => hq (hne.1 h)
    have HS := Lib.hid hs
    have HR := Lib.hid (show cmpI (num h1 l1) (num h2 l2) = if num h1 l1 < num h2 l2 then -1 else 1 by unfold cmpI; rw [if_neg hn])
    clear hs hne hn
    generalize num h1 l1 + 340282366920938463463374607431768211456 - num h2 l2 = n at *
    by_cases h12 : h1 = h2
    · have l12 : ¬ (l1 = l2) := fun h => hq ⟨h12, h⟩
      clear hq
      subst h12
      by_cases hlt : num h1 l1 < num h1 l2
      · rw [if_pos hlt] at HR
        rw [show decide (num h1 l1 < num h1 l2) = true by simpa using hlt] at HS
        clear hlt
        go_enter Try.func44, Try.ntmps44
        go_wp2_with fail
        refine (HS.out _).mono ?_
        rintro e w1 ⟨rfl, hb⟩
        have HB := Lib.hid ((below2 w _ _).trans (hb.mono (by simp; omega)))
        clear hb
        go_wp2
        go_ret
        exact ⟨by rw [HR.out]; rfl, by have h := HB.out; have h2 := h.size; go_grown⟩
      · rw [if_neg hlt] at HR
        rw [show decide (num h1 l1 < num h1 l2) = false by simpa using hlt] at HS
        clear hlt
        go_enter Try.func44, Try.ntmps44
        go_wp2_with fail
        refine (HS.out _).mono ?_
        rintro e w1 ⟨rfl, hb⟩
        have HB := Lib.hid ((below2 w _ _).trans (hb.mono (by simp; omega)))
        clear hb
        go_wp2
        go_ret
        exact ⟨by rw [HR.out]; rfl, by have h := HB.out; have h2 := h.size; go_grown⟩
    · clear hq
      by_cases hlt : num h1 l1 < num h2 l2
      · rw [if_pos hlt] at HR
        rw [show decide (num h1 l1 < num h2 l2) = true by simpa using hlt] at HS
        clear hlt
        go_enter Try.func44, Try.ntmps44
        go_wp2_with fail
        refine (HS.out _).mono ?_
        rintro e w1 ⟨rfl, hb⟩
        have HB := Lib.hid ((below2 w _ _).trans (hb.mono (by simp; omega)))
        clear hb
        go_wp2
        go_ret
        exact ⟨by rw [HR.out]; rfl, by have h := HB.out; have h2 := h.size; go_grown⟩
      · rw [if_neg hlt] at HR
        rw [show decide (num h1 l1 < num h2 l2) = false by simpa using hlt] at HS
        clear hlt
        go_enter Try.func44, Try.ntmps44
        go_wp2_with fail
        refine (HS.out _).mono ?_
        rintro e w1 ⟨rfl, hb⟩
        have HB := Lib.hid ((below2 w _ _).trans (hb.mono (by simp; omega)))
        clear hb
        go_wp2
        go_ret
        exact ⟨by rw [HR.out]; rfl, by have h := HB.out; have h2 := h.size; go_grown⟩
end Go.Proofs.Ytlfbiidnfheelaa
