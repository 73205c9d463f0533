/- The plain answers of layer 6: a year's day, the order. -/
import Derived.Test.YtoghogpcgdcboaaDoorCivD
import Derived.LoopN
namespace Go.Proofs.YtoghogpcgdcboaaDoor
set_option linter.unusedVariables false
set_option linter.unusedSimpArgs false
open Go.ChangeShapes Go.WideShapes Go.ChangeAt Go.RowKit

/-- a year's n-th day is a date that may be. -/
theorem ord_date {y n : Int} (h1 : 1 ≤ n) (h2 : n ≤ ydI y) : ∃ m d, mayB y m d = true ∧ dnI y m d = yst y + n - 1 := by
  have key : ∀ k : Nat, (k : Int) < ydI y → ∃ m d, mayB y m d = true ∧ dnI y m d = yst y + (k : Int) := by
    intro k
    induction k with
    | zero =>
      intro _
      refine ⟨1, 1, may_of (by decide) (by rw [mdI_1]; decide), ?_⟩
      have e : cmN y (1 - 1 : Int).toNat = 0 := rfl
      unfold dnI
      rw [e]; omega
    | succ k ih =>
      intro hk
      obtain ⟨m, d, g1, g2⟩ := ih (by omega)
      obtain ⟨y', m', d', k1, k2, k3⟩ := dn_next g1
      rcases k3 with ⟨rfl, k3⟩ | ⟨rfl, k3⟩ | ⟨rfl, k3⟩
      · exact ⟨m', d', k1, by rw [k2, g2]; omega⟩
      · exact ⟨m', d', k1, by rw [k2, g2]; omega⟩
      · exfalso
        have e := dn_in k1
        have s := yst_succ y
        have p := mayB_yes k1
        omega
  obtain ⟨m, d, g1, g2⟩ := key (n - 1).toNat (by omega)
  exact ⟨m, d, g1, by rw [g2]; omega⟩
/-- of two dates that may be the later one has the greater number. -/
def dLt (y m d y' m' d' : Int) : Prop := y < y' ∨ (y = y' ∧ (m < m' ∨ (m = m' ∧ d < d')))
theorem dn_lt {y m d y' m' d' : Int} (h : mayB y m d = true) (h' : mayB y' m' d' = true) (hl : dLt y m d y' m' d') : dnI y m d < dnI y' m' d' := by
  obtain ⟨e1, e2, e3⟩ := dn_in h
  obtain ⟨f1, f2, f3⟩ := dn_in h'
  have p := mayB_yes h
  have p' := mayB_yes h'
  rcases hl with hl | ⟨rfl, hl | ⟨rfl, hl⟩⟩
  · have s := yst_succ y
    have s2 := yst_mono (show y + 1 ≤ y' by omega)
    omega
  · have c := cm_mono y ((m - 1).toNat + 1) (m' - 1).toNat (by omega)
    rw [cm_succ, show (((m - 1).toNat : Nat) : Int) + 1 = m by omega] at c
    omega
  · omega
theorem dn_inj {y m d y' m' d' : Int} (h : mayB y m d = true) (h' : mayB y' m' d' = true) (e : dnI y m d = dnI y' m' d') : y = y' ∧ m = m' ∧ d = d' := by
  by_cases h1 : dLt y m d y' m' d'
  · have := dn_lt h h' h1; omega
  · by_cases h2 : dLt y' m' d' y m d
    · have := dn_lt h' h h2; omega
    · unfold dLt at h1 h2; omega
/-- the order of dates. -/
def ord3 (y m d y' m' d' : Int) : Int := if y < y' then -1 else if y' < y then 1 else if m < m' then -1 else if m' < m then 1 else if d < d' then -1 else if d' < d then 1 else 0
end Go.Proofs.YtoghogpcgdcboaaDoor
