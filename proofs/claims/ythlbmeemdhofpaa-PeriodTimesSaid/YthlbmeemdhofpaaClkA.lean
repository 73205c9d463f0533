/- The plain answers of layer 8: times of day. -/
import Derived.Test.YthlbmeemdhofpaaInstE
import Derived.Test.YthlbmeemdhofpaaRowS
namespace Go.Proofs.Ythlbmeemdhofpaa
set_option linter.unusedVariables false
set_option linter.unusedSimpArgs false
open Go.ChangeShapes Go.WideShapes Go.ChangeAt Go.RowKit

theorem keep4 {W0 W : World} {k : Nat} (h : Below W0.heap.size W0 W) (hk : W0.heap.size ≤ k) (a b c d : Value) : Below W0.heap.size W0 ((((W.setCell ⟨k, 0, none⟩ a).setCell ⟨k, 1, none⟩ b).setCell ⟨k, 2, none⟩ c).setCell ⟨k, 3, none⟩ d) :=
  (((h.setCell (by exact hk) _).setCell (by exact hk) _).setCell (by exact hk) _).setCell (by exact hk) _
/-- a time that may be. -/
def okK (h m s n : Int) : Prop := 0 ≤ h ∧ h ≤ 23 ∧ 0 ≤ m ∧ m ≤ 59 ∧ 0 ≤ s ∧ s ≤ 59 ∧ 0 ≤ n ∧ n < 1000000000
instance (h m s n : Int) : Decidable (okK h m s n) := by unfold okK; infer_instance
@[irreducible] def ckK (h m s n : Int) : Int := if okK h m s n then 0 else 5
theorem ckK_ok {h m s n : Int} (k : okK h m s n) : ckK h m s n = 0 := by unfold ckK; exact if_pos k
theorem ckK_no {h m s n : Int} (k : ¬ okK h m s n) : ckK h m s n = 5 := by unfold ckK; exact if_neg k
theorem of_ckK {h m s n : Int} (k : ckK h m s n = 0) : okK h m s n := by
  by_cases k2 : okK h m s n
  · exact k2
  · rw [ckK_no k2] at k; omega
theorem ckK_two (h m s n : Int) : ckK h m s n = 0 ∨ ckK h m s n = 5 := by
  by_cases k : okK h m s n
  · exact Or.inl (ckK_ok k)
  · exact Or.inr (ckK_no k)
def scK (h m s : Int) : Int := 3600 * h + 60 * m + s
theorem scK_bd {h m s n : Int} (k : okK h m s n) : 0 ≤ scK h m s ∧ scK h m s < 86400 := by unfold okK at k; unfold scK; omega
def nnK (h m s n : Int) : Int := if ckK h m s n = 0 then scK h m s * 1000000000 + n else 0
theorem nnK_ok {h m s n : Int} (k : ckK h m s n = 0) : nnK h m s n = scK h m s * 1000000000 + n := if_pos k
theorem nnK_no {h m s n : Int} (k : ckK h m s n ≠ 0) : nnK h m s n = 0 := if_neg k
/-- the time of so many nanoseconds. -/
def kH (n : Int) : Int := n / 1000000000 / 3600
def kM (n : Int) : Int := n / 1000000000 / 60 % 60
def kS (n : Int) : Int := n / 1000000000 % 60
def kN (n : Int) : Int := n % 1000000000
/-- an hour on a clock of 12. -/
def hfK (h : Int) : Int := if h % 12 = 0 then 12 else h % 12
end Go.Proofs.Ythlbmeemdhofpaa
