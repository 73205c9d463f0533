/- Several texts in one: InstB. -/
import Derived.Test.YtafecnlaodgmkaaGreatDoorY2Pkg1
import Derived.Test.YtafecnlaodgmkaaGreatDoorY2Pkg2
import Derived.LoopN
import Derived.Outline
import Derived.Deep.Cut
import Derived.Deep.RegionHeld3
import Derived.OwnWalk
namespace Go.Proofs.YtafecnlaodgmkaaGreatDoor
set_option linter.unusedVariables false
set_option linter.unusedSimpArgs false
open Go.ChangeShapes Go.WideShapes Go.ChangeAt Go.RowKit
@[irreducible] def fsI (x y : Int) : Int := if x = 0 then y else if y = 0 then x else if y < x then y else x
theorem rFirst_any (x y : Int) (b : Nat) (w : World) (c0 : w.cell? ⟨b, 0, none⟩ = some (.int .i64 x)) (c1 : w.cell? ⟨b, 1, none⟩ = some (.int .i64 y)) :
    Calls Tryz.prog 24 #[.slice (some ⟨b, 0, none⟩) 2 2] w fun e w' => e = .returned (.int .i64 (fsI x y)) ∧ Below w.heap.size w w' := by
  by_cases h1 : x = 0
  · subst h1
    by_cases h2 : y = 0
    · subst h2
      have E := Lib.hid (show fsI 0 0 = 0 by unfold fsI; rfl)
      go_enter Tryz.func24, Tryz.ntmps24
      go_wp2
      refine wp_loop_rounds 3 ?_
      rw [rounds_succ]
      go_wp2
      rw [rounds_succ]
      go_wp2
      rw [rounds_succ]
      go_wp2
      go_ret
      exact ⟨by rw [E.out]; try rfl, Below.refl _ _⟩
    · have E := Lib.hid (show fsI 0 y = y by unfold fsI; rw [if_pos rfl])
      have f2 : (y == 0) = false := by rw [beq_eq_false_iff_ne]; exact h2
      have f3 : (y != 0) = true := by rw [bne_iff_ne]; exact h2
      clear h2
      go_enter Tryz.func24, Tryz.ntmps24
      go_wp2
      refine wp_loop_rounds 3 ?_
      rw [rounds_succ]
      go_wp2
      rw [rounds_succ]
      go_wp2
      rw [rounds_succ]
      go_wp2
      go_ret
      exact ⟨by rw [E.out]; try rfl, Below.refl _ _⟩
  · have f2 : (x == 0) = false := by rw [beq_eq_false_iff_ne]; exact h1
    have f3 : (x != 0) = true := by rw [bne_iff_ne]; exact h1
    by_cases h2 : y = 0
    · subst h2
      have E := Lib.hid (show fsI x 0 = x by unfold fsI; rw [if_neg h1, if_pos rfl])
      clear h1
      go_enter Tryz.func24, Tryz.ntmps24
      go_wp2
      refine wp_loop_rounds 3 ?_
      rw [rounds_succ]
      go_wp2
      rw [rounds_succ]
      go_wp2
      rw [rounds_succ]
      go_wp2
      go_ret
      exact ⟨by rw [E.out]; try rfl, Below.refl _ _⟩
    · have f4 : (y == 0) = false := by rw [beq_eq_false_iff_ne]; exact h2
      have f5 : (y != 0) = true := by rw [bne_iff_ne]; exact h2
      by_cases h3 : y < x
      · have E := Lib.hid (show fsI x y = y by unfold fsI; rw [if_neg h1, if_neg h2, if_pos h3])
        clear h1 h2
        go_enter Tryz.func24, Tryz.ntmps24
        go_wp2
        refine wp_loop_rounds 3 ?_
        rw [rounds_succ]
        go_wp2
        rw [rounds_succ]
        go_wp2
        rw [rounds_succ]
        go_wp2
        go_ret
        exact ⟨by rw [E.out]; try rfl, Below.refl _ _⟩
      · have E := Lib.hid (show fsI x y = x by unfold fsI; rw [if_neg h1, if_neg h2, if_neg h3])
        clear h1 h2
        go_enter Tryz.func24, Tryz.ntmps24
        go_wp2
        refine wp_loop_rounds 3 ?_
        rw [rounds_succ]
        go_wp2
        rw [rounds_succ]
        go_wp2
        rw [rounds_succ]
        go_wp2
        go_ret
        exact ⟨by rw [E.out]; try rfl, Below.refl _ _⟩
end Go.Proofs.YtafecnlaodgmkaaGreatDoor
