/- Contracts of package instant and of the plain answers of layer 3: checks, the order, the first error. -/
import Derived.Test.YtpkbcnofieinaaaDoorInstA
import Derived.LoopN
namespace Go.Proofs.YtpkbcnofieinaaaDoor
set_option linter.unusedVariables false
set_option linter.unusedSimpArgs false
open Go.ChangeShapes Go.WideShapes Go.ChangeAt Go.RowKit

@[irreducible] def wmB (n : Int) : Bool := decide (0 ≤ n) && decide (n < 1000000000)
theorem wmB_true {n : Int} (h1 : 0 ≤ n) (h2 : n < 1000000000) : wmB n = true := by unfold wmB; rw [decide_eq_true h1, decide_eq_true h2]; rfl
theorem wmB_low {n : Int} (h1 : n < 0) : wmB n = false := by unfold wmB; rw [decide_eq_false (by omega)]; rfl
theorem wmB_high {n : Int} (h1 : 1000000000 ≤ n) : wmB n = false := by unfold wmB; rw [decide_eq_false (show ¬ n < 1000000000 by omega), Bool.and_false]
theorem of_wmB {n : Int} (h : wmB n = true) : 0 ≤ n ∧ n < 1000000000 := by unfold wmB at h; rw [Bool.and_eq_true, decide_eq_true_eq, decide_eq_true_eq] at h; exact h
@[irreducible] def ckI (s n : Int) : Int := if wmB n = true then (if s < -377705116800 ∨ 253402300799 < s then 8 else 0) else 5
theorem ckI_wm {s n : Int} (h : wmB n = false) : ckI s n = 5 := by unfold ckI; rw [if_neg (by rw [h]; decide)]
theorem ckI_out {s n : Int} (h : wmB n = true) (h2 : s < -377705116800 ∨ 253402300799 < s) : ckI s n = 8 := by unfold ckI; rw [if_pos h, if_pos h2]
theorem ckI_ok {s n : Int} (h : wmB n = true) (h2 : ¬ (s < -377705116800 ∨ 253402300799 < s)) : ckI s n = 0 := by unfold ckI; rw [if_pos h, if_neg h2]
theorem ckI_three (s n : Int) : ckI s n = 0 ∨ ckI s n = 5 ∨ ckI s n = 8 := by unfold ckI; split <;> (try split) <;> simp
theorem of_ckI {s n : Int} (h : ckI s n = 0) : wmB n = true ∧ -377705116800 ≤ s ∧ s ≤ 253402300799 := by
  unfold ckI at h
  by_cases h1 : wmB n = true
  · rw [if_pos h1] at h
    by_cases h2 : s < -377705116800 ∨ 253402300799 < s
    · rw [if_pos h2] at h; omega
    · exact ⟨h1, by omega, by omega⟩
  · rw [if_neg h1] at h; omega
theorem below1 (w : World) (o : Obj) : Below w.heap.size w (w.alloc o) := (Below.refl _ _).alloc (Nat.le_refl _) _
/-- of a duration. -/
@[irreducible] def ckD (s n : Int) : Int := if wmB n = true then (if s < -1099511627776 ∨ 1099511627776 < s ∨ (s = 1099511627776 ∧ 0 < n) then 8 else 0) else 5
theorem ckD_wm {s n : Int} (h : wmB n = false) : ckD s n = 5 := by unfold ckD; rw [if_neg (by rw [h]; decide)]
theorem ckD_out {s n : Int} (h : wmB n = true) (h2 : s < -1099511627776 ∨ 1099511627776 < s ∨ (s = 1099511627776 ∧ 0 < n)) : ckD s n = 8 := by unfold ckD; rw [if_pos h, if_pos h2]
theorem ckD_ok {s n : Int} (h : wmB n = true) (h2 : ¬ (s < -1099511627776 ∨ 1099511627776 < s ∨ (s = 1099511627776 ∧ 0 < n))) : ckD s n = 0 := by unfold ckD; rw [if_pos h, if_neg h2]
theorem ckD_three (s n : Int) : ckD s n = 0 ∨ ckD s n = 5 ∨ ckD s n = 8 := by unfold ckD; split <;> (try split) <;> simp
theorem of_ckD {s n : Int} (h : ckD s n = 0) : wmB n = true ∧ -1099511627776 ≤ s ∧ s ≤ 1099511627776 := by
  unfold ckD at h
  by_cases h1 : wmB n = true
  · rw [if_pos h1] at h
    by_cases h2 : s < -1099511627776 ∨ 1099511627776 < s ∨ (s = 1099511627776 ∧ 0 < n)
    · rw [if_pos h2] at h; omega
    · exact ⟨h1, by omega, by omega⟩
  · rw [if_neg h1] at h; omega
theorem of_ckD8 {s n : Int} (h : ckD s n = 8) : wmB n = true ∧ (s < -1099511627776 ∨ 1099511627776 < s ∨ (s = 1099511627776 ∧ 0 < n)) := by
  unfold ckD at h
  by_cases h1 : wmB n = true
  · rw [if_pos h1] at h
    by_cases h2 : s < -1099511627776 ∨ 1099511627776 < s ∨ (s = 1099511627776 ∧ 0 < n)
    · exact ⟨h1, h2⟩
    · rw [if_neg h2] at h; omega
  · rw [if_neg h1] at h; omega
theorem rCheckDur_any (s n : Int) (w : World) : Calls Tryd.prog 27 #[.agg #[.int .i64 s, .int .i64 n]] w fun e w' => e = .returned (.int .i64 (ckD s n)) ∧ Below w.heap.size w w' := by
  by_cases h0 : n < 0
  · have E := Lib.hid (ckD_wm (s := s) (wmB_low h0))
    go_enter Tryd.func27, Tryd.ntmps27
    go_wp2
    go_ret
    exact ⟨by rw [E.out]; rfl, below1 _ _⟩
  · by_cases h1 : (1000000000 : Int) ≤ n
    · have E := Lib.hid (ckD_wm (s := s) (wmB_high h1))
      go_enter Tryd.func27, Tryd.ntmps27
      go_wp2
      go_ret
      exact ⟨by rw [E.out]; rfl, below1 _ _⟩
    · have hw := wmB_true (n := n) (by omega) (by omega)
      by_cases h2 : s < -1099511627776
      · have E := Lib.hid (ckD_out hw (Or.inl h2))
        clear hw
        go_enter Tryd.func27, Tryd.ntmps27
        go_wp2
        go_ret
        exact ⟨by rw [E.out]; rfl, below1 _ _⟩
      · by_cases h3 : (1099511627776 : Int) < s
        · have E := Lib.hid (ckD_out hw (Or.inr (Or.inl h3)))
          clear hw
          go_enter Tryd.func27, Tryd.ntmps27
          go_wp2
          go_ret
          exact ⟨by rw [E.out]; rfl, below1 _ _⟩
        · by_cases h4 : s = 1099511627776
          · subst h4
            by_cases h5 : (0 : Int) < n
            · have E := Lib.hid (ckD_out hw (Or.inr (Or.inr ⟨rfl, h5⟩)))
              clear hw
              go_enter Tryd.func27, Tryd.ntmps27
              go_wp2
              go_ret
              exact ⟨by rw [E.out]; rfl, below1 _ _⟩
            · have E := Lib.hid (ckD_ok hw (s := 1099511627776) (by omega))
              clear hw
              go_enter Tryd.func27, Tryd.ntmps27
              go_wp2
              go_ret
              exact ⟨by rw [E.out]; rfl, below1 _ _⟩
          · have E := Lib.hid (ckD_ok hw (s := s) (by omega))
            clear hw
            go_enter Tryd.func27, Tryd.ntmps27
            go_wp2
            go_ret
            exact ⟨by rw [E.out]; rfl, below1 _ _⟩
/-- the order, by seconds and then by nanoseconds. -/
def ordI (a b : Int) : Int := if a < b then -1 else if b < a then 1 else 0
def ord2 (a b c d : Int) : Int := if a = c then ordI b d else ordI a c
/-- the lesser error; 0 is none. -/
@[irreducible] def fsI (x y : Int) : Int := if x = 0 then y else if y = 0 then x else if y < x then y else x
theorem rFirst_any (x y : Int) (b : Nat) (w : World) (c0 : w.cell? ⟨b, 0, none⟩ = some (.int .i64 x)) (c1 : w.cell? ⟨b, 1, none⟩ = some (.int .i64 y)) :
    Calls Tryd.prog 26 #[.slice (some ⟨b, 0, none⟩) 2 2] w fun e w' => e = .returned (.int .i64 (fsI x y)) ∧ Below w.heap.size w w' := by
  by_cases h1 : x = 0
  · subst h1
    by_cases h2 : y = 0
    · subst h2
      have E := Lib.hid (show fsI 0 0 = 0 by unfold fsI; rfl)
      go_enter Tryd.func26, Tryd.ntmps26
      go_wp2
      refine wp_loop_rounds 3 ?_
      rw [rounds_succ]
      go_wp2
      rw [rounds_succ]
      go_wp2
      rw [rounds_succ]
      go_wp2
      go_ret
      exact ⟨by rw [E.out]; try rfl, Below.refl _ _⟩
    · have E := Lib.hid (show fsI 0 y = y by unfold fsI; rw [if_pos rfl])
      have f2 : (y == 0) = false := by rw [beq_eq_false_iff_ne]; exact h2
      have f3 : (y != 0) = true := by rw [bne_iff_ne]; exact h2
      clear h2
      go_enter Tryd.func26, Tryd.ntmps26
      go_wp2
      refine wp_loop_rounds 3 ?_
      rw [rounds_succ]
      go_wp2
      rw [rounds_succ]
      go_wp2
      rw [rounds_succ]
      go_wp2
      go_ret
      exact ⟨by rw [E.out]; try rfl, Below.refl _ _⟩
  · have f2 : (x == 0) = false := by rw [beq_eq_false_iff_ne]; exact h1
    have f3 : (x != 0) = true := by rw [bne_iff_ne]; exact h1
    by_cases h2 : y = 0
    · subst h2
      have E := Lib.hid (show fsI x 0 = x by unfold fsI; rw [if_neg h1, if_pos rfl])
      clear h1
      go_enter Tryd.func26, Tryd.ntmps26
      go_wp2
      refine wp_loop_rounds 3 ?_
      rw [rounds_succ]
      go_wp2
      rw [rounds_succ]
      go_wp2
      rw [rounds_succ]
      go_wp2
      go_ret
      exact ⟨by rw [E.out]; try rfl, Below.refl _ _⟩
    · have f4 : (y == 0) = false := by rw [beq_eq_false_iff_ne]; exact h2
      have f5 : (y != 0) = true := by rw [bne_iff_ne]; exact h2
      by_cases h3 : y < x
      · have E := Lib.hid (show fsI x y = y by unfold fsI; rw [if_neg h1, if_neg h2, if_pos h3])
        clear h1 h2
        go_enter Tryd.func26, Tryd.ntmps26
        go_wp2
        refine wp_loop_rounds 3 ?_
        rw [rounds_succ]
        go_wp2
        rw [rounds_succ]
        go_wp2
        rw [rounds_succ]
        go_wp2
        go_ret
        exact ⟨by rw [E.out]; try rfl, Below.refl _ _⟩
      · have E := Lib.hid (show fsI x y = x by unfold fsI; rw [if_neg h1, if_neg h2, if_neg h3])
        clear h1 h2
        go_enter Tryd.func26, Tryd.ntmps26
        go_wp2
        refine wp_loop_rounds 3 ?_
        rw [rounds_succ]
        go_wp2
        rw [rounds_succ]
        go_wp2
        rw [rounds_succ]
        go_wp2
        go_ret
        exact ⟨by rw [E.out]; try rfl, Below.refl _ _⟩
end Go.Proofs.YtpkbcnofieinaaaDoor
