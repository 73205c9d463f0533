/- Several texts in one: ClkB, ClkC. -/
import Derived.Test.YtafecnlaodgmkaaGreatDoorY2Pkg1
import Derived.Test.YtafecnlaodgmkaaGreatDoorShelf
import Derived.Test.YtafecnlaodgmkaaGreatDoorY2Pkg2
import Derived.Test.YtafecnlaodgmkaaGreatDoorY2Inst1
import Derived.Test.YtafecnlaodgmkaaGreatDoorY2RowS1
import Derived.Outline
import Derived.Deep.Cut
import Derived.Deep.RegionHeld3
import Derived.OwnWalk
import Derived.Lib.LaidTab
namespace Go.Proofs.YtafecnlaodgmkaaGreatDoor
set_option linter.unusedVariables false
set_option linter.unusedSimpArgs false
open Go.ChangeShapes Go.WideShapes Go.ChangeAt Go.RowKit
theorem tdiv_parts (x c : Int) (hc : 0 < c) : (x.tmod c < 0 → x % c = x.tmod c + c ∧ x / c = x.tdiv c - 1) ∧ (¬ x.tmod c < 0 → x % c = x.tmod c ∧ x / c = x.tdiv c) ∧ -c < x.tmod c ∧ x.tmod c < c := by
  have h1 := Int.lt_tmod_of_pos x hc
  have h2 := Int.tmod_lt_of_pos x hc
  have h3 := Int.tmod_add_mul_tdiv x c
  have h4 := Int.emod_add_mul_ediv x c
  have h5 := Int.emod_nonneg x (show c ≠ 0 by omega)
  have h6 := Int.emod_lt_of_pos x hc
  refine ⟨fun h => ?_, fun h => ?_, by omega, h2⟩
  · have e : c * (x / c - (x.tdiv c - 1)) = x.tmod c + c - x % c := by rw [Int.mul_sub, Int.mul_sub]; omega
    have e0 : x / c - (x.tdiv c - 1) = 0 := by
      rcases Int.lt_trichotomy (x / c - (x.tdiv c - 1)) 0 with k | k | k
      · have := Int.mul_le_mul_of_nonneg_left (show x / c - (x.tdiv c - 1) ≤ -1 by omega) (show 0 ≤ c by omega)
        omega
      · exact k
      · have := Int.mul_le_mul_of_nonneg_left (show 1 ≤ x / c - (x.tdiv c - 1) by omega) (show 0 ≤ c by omega)
        omega
    rw [e0] at e
    omega
  · have e : c * (x / c - x.tdiv c) = x.tmod c - x % c := by rw [Int.mul_sub]; omega
    have e0 : x / c - x.tdiv c = 0 := by
      rcases Int.lt_trichotomy (x / c - x.tdiv c) 0 with k | k | k
      · have := Int.mul_le_mul_of_nonneg_left (show x / c - x.tdiv c ≤ -1 by omega) (show 0 ≤ c by omega)
        omega
      · exact k
      · have := Int.mul_le_mul_of_nonneg_left (show 1 ≤ x / c - x.tdiv c by omega) (show 0 ≤ c by omega)
        omega
    rw [e0] at e
    omega
end Go.Proofs.YtafecnlaodgmkaaGreatDoor
namespace Go.Proofs.YtafecnlaodgmkaaGreatDoor
set_option linter.unusedVariables false
set_option linter.unusedSimpArgs false
open Go.ChangeShapes Go.WideShapes Go.ChangeAt Go.RowKit
def szT : List Int := [24, 60, 60, 1000000000]
structure SZ (w : World) : Prop where
  all : ∀ g, Tryz.prog.globalNamed "analemma/clock.sizes" = some g → (∀ i : Nat, i < 4 → w.cell? ⟨g, i, none⟩ = some (.int .i64 (szT.getD i 0))) ∧ g < w.heap.size
theorem sz_keep {w w' : World} (h : Hid (SZ w)) (hb : Below w.heap.size w w') : SZ w' :=
  ⟨fun g hg => ⟨fun i hi => (hb.cell (p := ⟨g, i, none⟩) (h.out.all g hg).2).trans ((h.out.all g hg).1 i hi), Nat.lt_of_lt_of_le (h.out.all g hg).2 hb.size⟩⟩
end Go.Proofs.YtafecnlaodgmkaaGreatDoor
