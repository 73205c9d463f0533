/- Several texts in one: InstA, InstB, InstC, InstD, InstE, InstF, InstG, InstI, InstH. -/
import Derived.Test.YtaoljjhhbmblhaaDoorZPkg1
import Derived.Test.YtaoljjhhbmblhaaDoorZRef1
import Derived.Test.YtaoljjhhbmblhaaDoorZPkg2
import Derived.Test.YtaoljjhhbmblhaaDoorShelf
import Derived.Test.YtaoljjhhbmblhaaDoorZRFloorA1
import Derived.Test.YtaoljjhhbmblhaaDoorZRFloorB1
import Derived.Test.YtaoljjhhbmblhaaDoorZRFloorC1
import Derived.Outline
import Derived.Deep.Cut
import Derived.Deep.RegionHeld3
import Derived.OwnWalk
import Derived.LoopN
import Derived.Lib.Small
import Derived.Deep.DrawnRows
namespace Go.Proofs.YtaoljjhhbmblhaaDoor
set_option linter.unusedVariables false
set_option linter.unusedSimpArgs false
open Go.ChangeShapes Go.WideShapes Go.ChangeAt Go.RowKit
def nanos (s n : Int) : Int := s * 1000000000 + n
end Go.Proofs.YtaoljjhhbmblhaaDoor
namespace Go.Proofs.YtaoljjhhbmblhaaDoor
set_option linter.unusedVariables false
set_option linter.unusedSimpArgs false
open Go.ChangeShapes Go.WideShapes Go.ChangeAt Go.RowKit
@[irreducible] def wmB (n : Int) : Bool := decide (0 ≤ n) && decide (n < 1000000000)
theorem wmB_true {n : Int} (h1 : 0 ≤ n) (h2 : n < 1000000000) : wmB n = true := by unfold wmB; rw [decide_eq_true h1, decide_eq_true h2]; rfl
theorem wmB_low {n : Int} (h1 : n < 0) : wmB n = false := by unfold wmB; rw [decide_eq_false (by omega)]; rfl
theorem wmB_high {n : Int} (h1 : 1000000000 ≤ n) : wmB n = false := by unfold wmB; rw [decide_eq_false (show ¬ n < 1000000000 by omega), Bool.and_false]
theorem of_wmB {n : Int} (h : wmB n = true) : 0 ≤ n ∧ n < 1000000000 := by unfold wmB at h; rw [Bool.and_eq_true, decide_eq_true_eq, decide_eq_true_eq] at h; exact h
@[irreducible] def ckI (s n : Int) : Int := if wmB n = true then (if s < -377705116800 ∨ 253402300799 < s then 8 else 0) else 5
theorem ckI_wm {s n : Int} (h : wmB n = false) : ckI s n = 5 := by unfold ckI; rw [if_neg (by rw [h]; decide)]
theorem ckI_out {s n : Int} (h : wmB n = true) (h2 : s < -377705116800 ∨ 253402300799 < s) : ckI s n = 8 := by unfold ckI; rw [if_pos h, if_pos h2]
theorem ckI_ok {s n : Int} (h : wmB n = true) (h2 : ¬ (s < -377705116800 ∨ 253402300799 < s)) : ckI s n = 0 := by unfold ckI; rw [if_pos h, if_neg h2]
theorem ckI_three (s n : Int) : ckI s n = 0 ∨ ckI s n = 5 ∨ ckI s n = 8 := by unfold ckI; split <;> (try split) <;> simp
theorem of_ckI {s n : Int} (h : ckI s n = 0) : wmB n = true ∧ -377705116800 ≤ s ∧ s ≤ 253402300799 := by
  unfold ckI at h
  by_cases h1 : wmB n = true
  · rw [if_pos h1] at h
    by_cases h2 : s < -377705116800 ∨ 253402300799 < s
    · rw [if_pos h2] at h; omega
    · exact ⟨h1, by omega, by omega⟩
  · rw [if_neg h1] at h; omega
theorem below1 (w : World) (o : Obj) : Below w.heap.size w (w.alloc o) := (Below.refl _ _).alloc (Nat.le_refl _) _
theorem rCheck_any (s n : Int) (w : World) : Calls Tryd.prog 60 #[.agg #[.int .i64 s, .int .i64 n]] w fun e w' => e = .returned (.int .i64 (ckI s n)) ∧ Below w.heap.size w w' := by
  by_cases h0 : n < 0
  · have E := Lib.hid (ckI_wm (s := s) (wmB_low h0))
    go_enter Tryd.func60, Tryd.ntmps60
    go_wp2
    go_ret
    exact ⟨by rw [E.out]; rfl, below1 _ _⟩
  · by_cases h1 : (1000000000 : Int) ≤ n
    · have E := Lib.hid (ckI_wm (s := s) (wmB_high h1))
      go_enter Tryd.func60, Tryd.ntmps60
      go_wp2
      go_ret
      exact ⟨by rw [E.out]; rfl, below1 _ _⟩
    · have hw := wmB_true (n := n) (by omega) (by omega)
      by_cases h2 : s < -377705116800
      · have E := Lib.hid (ckI_out hw (Or.inl h2))
        clear hw
        go_enter Tryd.func60, Tryd.ntmps60
        go_wp2
        go_ret
        exact ⟨by rw [E.out]; rfl, below1 _ _⟩
      · by_cases h3 : (253402300799 : Int) < s
        · have E := Lib.hid (ckI_out hw (Or.inr h3))
          clear hw
          go_enter Tryd.func60, Tryd.ntmps60
          go_wp2
          go_ret
          exact ⟨by rw [E.out]; rfl, below1 _ _⟩
        · have E := Lib.hid (ckI_ok hw (fun h => h.elim h2 h3))
          clear hw
          go_enter Tryd.func60, Tryd.ntmps60
          go_wp2
          go_ret
          exact ⟨by rw [E.out]; rfl, below1 _ _⟩
@[irreducible] def ckD (s n : Int) : Int := if wmB n = true then (if s < -1099511627776 ∨ 1099511627776 < s ∨ (s = 1099511627776 ∧ 0 < n) then 8 else 0) else 5
theorem ckD_wm {s n : Int} (h : wmB n = false) : ckD s n = 5 := by unfold ckD; rw [if_neg (by rw [h]; decide)]
theorem ckD_out {s n : Int} (h : wmB n = true) (h2 : s < -1099511627776 ∨ 1099511627776 < s ∨ (s = 1099511627776 ∧ 0 < n)) : ckD s n = 8 := by unfold ckD; rw [if_pos h, if_pos h2]
theorem ckD_ok {s n : Int} (h : wmB n = true) (h2 : ¬ (s < -1099511627776 ∨ 1099511627776 < s ∨ (s = 1099511627776 ∧ 0 < n))) : ckD s n = 0 := by unfold ckD; rw [if_pos h, if_neg h2]
theorem ckD_three (s n : Int) : ckD s n = 0 ∨ ckD s n = 5 ∨ ckD s n = 8 := by unfold ckD; split <;> (try split) <;> simp
theorem of_ckD {s n : Int} (h : ckD s n = 0) : wmB n = true ∧ -1099511627776 ≤ s ∧ s ≤ 1099511627776 := by
  unfold ckD at h
  by_cases h1 : wmB n = true
  · rw [if_pos h1] at h
    by_cases h2 : s < -1099511627776 ∨ 1099511627776 < s ∨ (s = 1099511627776 ∧ 0 < n)
    · rw [if_pos h2] at h; omega
    · exact ⟨h1, by omega, by omega⟩
  · rw [if_neg h1] at h; omega
theorem of_ckD8 {s n : Int} (h : ckD s n = 8) : wmB n = true ∧ (s < -1099511627776 ∨ 1099511627776 < s ∨ (s = 1099511627776 ∧ 0 < n)) := by
  unfold ckD at h
  by_cases h1 : wmB n = true
  · rw [if_pos h1] at h
    by_cases h2 : s < -1099511627776 ∨ 1099511627776 < s ∨ (s = 1099511627776 ∧ 0 < n)
    · exact ⟨h1, h2⟩
    · rw [if_neg h2] at h; omega
  · rw [if_neg h1] at h; omega
theorem rCheckDur_any (s n : Int) (w : World) : Calls Tryd.prog 35 #[.agg #[.int .i64 s, .int .i64 n]] w fun e w' => e = .returned (.int .i64 (ckD s n)) ∧ Below w.heap.size w w' := by
  by_cases h0 : n < 0
  · have E := Lib.hid (ckD_wm (s := s) (wmB_low h0))
    go_enter Tryd.func35, Tryd.ntmps35
    go_wp2
    go_ret
    exact ⟨by rw [E.out]; rfl, below1 _ _⟩
  · by_cases h1 : (1000000000 : Int) ≤ n
    · have E := Lib.hid (ckD_wm (s := s) (wmB_high h1))
      go_enter Tryd.func35, Tryd.ntmps35
      go_wp2
      go_ret
      exact ⟨by rw [E.out]; rfl, below1 _ _⟩
    · have hw := wmB_true (n := n) (by omega) (by omega)
      by_cases h2 : s < -1099511627776
      · have E := Lib.hid (ckD_out hw (Or.inl h2))
        clear hw
        go_enter Tryd.func35, Tryd.ntmps35
        go_wp2
        go_ret
        exact ⟨by rw [E.out]; rfl, below1 _ _⟩
      · by_cases h3 : (1099511627776 : Int) < s
        · have E := Lib.hid (ckD_out hw (Or.inr (Or.inl h3)))
          clear hw
          go_enter Tryd.func35, Tryd.ntmps35
          go_wp2
          go_ret
          exact ⟨by rw [E.out]; rfl, below1 _ _⟩
        · by_cases h4 : s = 1099511627776
          · subst h4
            by_cases h5 : (0 : Int) < n
            · have E := Lib.hid (ckD_out hw (Or.inr (Or.inr ⟨rfl, h5⟩)))
              clear hw
              go_enter Tryd.func35, Tryd.ntmps35
              go_wp2
              go_ret
              exact ⟨by rw [E.out]; rfl, below1 _ _⟩
            · have E := Lib.hid (ckD_ok hw (s := 1099511627776) (by omega))
              clear hw
              go_enter Tryd.func35, Tryd.ntmps35
              go_wp2
              go_ret
              exact ⟨by rw [E.out]; rfl, below1 _ _⟩
          · have E := Lib.hid (ckD_ok hw (s := s) (by omega))
            clear hw
            go_enter Tryd.func35, Tryd.ntmps35
            go_wp2
            go_ret
            exact ⟨by rw [E.out]; rfl, below1 _ _⟩
def ordI (a b : Int) : Int := if a < b then -1 else if b < a then 1 else 0
def ord2 (a b c d : Int) : Int := if a = c then ordI b d else ordI a c
theorem rOrder_any (a b : Int) (w : World) : Calls Tryd.prog 69 #[.int .i64 a, .int .i64 b] w fun e w' => e = .returned (.int .i64 (ordI a b)) ∧ Below w.heap.size w w' := by
  by_cases h1 : a < b
  · have E := Lib.hid (show ordI a b = -1 by unfold ordI; rw [if_pos h1])
    go_enter Tryd.func69, Tryd.ntmps69
    go_wp2
    go_ret
    exact ⟨by rw [E.out]; rfl, Below.refl _ _⟩
  · by_cases h2 : b < a
    · have E := Lib.hid (show ordI a b = 1 by unfold ordI; rw [if_neg h1, if_pos h2])
      go_enter Tryd.func69, Tryd.ntmps69
      go_wp2
      go_ret
      exact ⟨by rw [E.out]; rfl, Below.refl _ _⟩
    · have E := Lib.hid (show ordI a b = 0 by unfold ordI; rw [if_neg h1, if_neg h2])
      go_enter Tryd.func69, Tryd.ntmps69
      go_wp2
      go_ret
      exact ⟨by rw [E.out]; rfl, Below.refl _ _⟩
@[irreducible] def fsI (x y : Int) : Int := if x = 0 then y else if y = 0 then x else if y < x then y else x
theorem rFirst_any (x y : Int) (b : Nat) (w : World) (c0 : w.cell? ⟨b, 0, none⟩ = some (.int .i64 x)) (c1 : w.cell? ⟨b, 1, none⟩ = some (.int .i64 y)) :
    Calls Tryd.prog 34 #[.slice (some ⟨b, 0, none⟩) 2 2] w fun e w' => e = .returned (.int .i64 (fsI x y)) ∧ Below w.heap.size w w' := by
  by_cases h1 : x = 0
  · subst h1
    by_cases h2 : y = 0
    · subst h2
      have E := Lib.hid (show fsI 0 0 = 0 by unfold fsI; rfl)
      go_enter Tryd.func34, Tryd.ntmps34
      go_wp2
      refine wp_loop_rounds 3 ?_
      rw [rounds_succ]
      go_wp2
      rw [rounds_succ]
      go_wp2
      rw [rounds_succ]
      go_wp2
      go_ret
      exact ⟨by rw [E.out]; try rfl, Below.refl _ _⟩
    · have E := Lib.hid (show fsI 0 y = y by unfold fsI; rw [if_pos rfl])
      have f2 : (y == 0) = false := by rw [beq_eq_false_iff_ne]; exact h2
      have f3 : (y != 0) = true := by rw [bne_iff_ne]; exact h2
      clear h2
      go_enter Tryd.func34, Tryd.ntmps34
      go_wp2
      refine wp_loop_rounds 3 ?_
      rw [rounds_succ]
      go_wp2
      rw [rounds_succ]
      go_wp2
      rw [rounds_succ]
      go_wp2
      go_ret
      exact ⟨by rw [E.out]; try rfl, Below.refl _ _⟩
  · have f2 : (x == 0) = false := by rw [beq_eq_false_iff_ne]; exact h1
    have f3 : (x != 0) = true := by rw [bne_iff_ne]; exact h1
    by_cases h2 : y = 0
    · subst h2
      have E := Lib.hid (show fsI x 0 = x by unfold fsI; rw [if_neg h1, if_pos rfl])
      clear h1
      go_enter Tryd.func34, Tryd.ntmps34
      go_wp2
      refine wp_loop_rounds 3 ?_
      rw [rounds_succ]
      go_wp2
      rw [rounds_succ]
      go_wp2
      rw [rounds_succ]
      go_wp2
      go_ret
      exact ⟨by rw [E.out]; try rfl, Below.refl _ _⟩
    · have f4 : (y == 0) = false := by rw [beq_eq_false_iff_ne]; exact h2
      have f5 : (y != 0) = true := by rw [bne_iff_ne]; exact h2
      by_cases h3 : y < x
      · have E := Lib.hid (show fsI x y = y by unfold fsI; rw [if_neg h1, if_neg h2, if_pos h3])
        clear h1 h2
        go_enter Tryd.func34, Tryd.ntmps34
        go_wp2
        refine wp_loop_rounds 3 ?_
        rw [rounds_succ]
        go_wp2
        rw [rounds_succ]
        go_wp2
        rw [rounds_succ]
        go_wp2
        go_ret
        exact ⟨by rw [E.out]; try rfl, Below.refl _ _⟩
      · have E := Lib.hid (show fsI x y = x by unfold fsI; rw [if_neg h1, if_neg h2, if_neg h3])
        clear h1 h2
        go_enter Tryd.func34, Tryd.ntmps34
        go_wp2
        refine wp_loop_rounds 3 ?_
        rw [rounds_succ]
        go_wp2
        rw [rounds_succ]
        go_wp2
        rw [rounds_succ]
        go_wp2
        go_ret
        exact ⟨by rw [E.out]; try rfl, Below.refl _ _⟩
end Go.Proofs.YtaoljjhhbmblhaaDoor
namespace Go.Proofs.YtaoljjhhbmblhaaDoor
set_option linter.unusedVariables false
set_option linter.unusedSimpArgs false
open Go.ChangeShapes Go.WideShapes Go.ChangeAt Go.RowKit
@[irreducible] def tkB (f l x : Int) : Bool := decide (f ≤ x / 1000000000) && decide (x / 1000000000 ≤ l)
@[irreducible] def tkS (f l x : Int) : Int := if tkB f l x = true then x / 1000000000 else 0
@[irreducible] def tkN (f l x : Int) : Int := if tkB f l x = true then x % 1000000000 else 0
@[irreducible] def tkE (f l x : Int) : Int := if tkB f l x = true then 0 else 8
theorem tk_yes {f l x : Int} (h1 : f ≤ x / 1000000000) (h2 : x / 1000000000 ≤ l) : tkS f l x = x / 1000000000 ∧ tkN f l x = x % 1000000000 ∧ tkE f l x = 0 := by
  have h : tkB f l x = true := by unfold tkB; rw [decide_eq_true h1, decide_eq_true h2]; rfl
  unfold tkS tkN tkE
  exact ⟨if_pos h, if_pos h, if_pos h⟩
theorem tk_no {f l x : Int} (h1 : ¬ (f ≤ x / 1000000000 ∧ x / 1000000000 ≤ l)) : tkS f l x = 0 ∧ tkN f l x = 0 ∧ tkE f l x = 8 := by
  have h : ¬ tkB f l x = true := by
    unfold tkB; rw [Bool.and_eq_true, decide_eq_true_eq, decide_eq_true_eq]; exact h1
  unfold tkS tkN tkE
  exact ⟨if_neg h, if_neg h, if_neg h⟩
end Go.Proofs.YtaoljjhhbmblhaaDoor
namespace Go.Proofs.YtaoljjhhbmblhaaDoor
set_option linter.unusedVariables false
set_option linter.unusedSimpArgs false
open Go.ChangeShapes Go.WideShapes Go.ChangeAt Go.RowKit
set_option maxHeartbeats 1600000 in
set_option maxRecDepth 100000 in
theorem rWide_neg (s n : Int) (bs : in64 s) (bn : in64 n) (hs : s < 0) (w : World) :
    Calls Tryd.prog 62 #[.int .i64 s, .int .i64 n] w fun e w' => e = .returned (.agg #[.int .u64 (zh (nanos s n)), .int .u64 (zl (nanos s n))]) ∧ Below w.heap.size w w' := by
  have H1 := Lib.hid (rAmt_any s bs)
  have X2 := rMul_any s.natAbs 1000000000 (natAbs_U bs) (by unfold U; omega)
  rw [show ((1000000000 : Nat) : Int) = 1000000000 from rfl] at X2
  have X3 := rNeg_any ((s.natAbs * 1000000000 : Nat) : Int)
  rw [show -((s.natAbs * 1000000000 : Nat) : Int) = s * 1000000000 by omega] at X3
  have H4 := Lib.hid (rOf_any n bn)
  have H5 := Lib.hid (rAdd_any (s * 1000000000) n)
  rw [show s * 1000000000 + n = nanos s n from rfl] at H5
  have H2 := Lib.hid X2
  have H3 := Lib.hid X3
  clear X2 X3 bs bn
  generalize nanos s n = T at *
  generalize cb (s * 1000000000) n = c at *
  generalize s * 1000000000 = M at *
  generalize ((s.natAbs * 1000000000 : Nat) : Int) = P at *
  generalize s.natAbs = m at *
  go_enter Tryd.func62, Tryd.ntmps62
  refine wp_shut ?_
  go_wp2_with fail
  
  refine (H1.out _).mono ?_
  rintro e V1 ⟨rfl, hb1⟩
  have B1 := Lib.hid (((Below.refl w.heap.size w).alloc (Nat.le_refl _) _).trans (hb1.mono (by first | assumption | (simp <;> omega) | (simp; done))))
  have Z1 := Lib.hid (row_call hb1 (heap_alloc_new _ _))
  clear hb1
  have Z1_0 : V1.cell? ⟨w.heap.size, 0, none⟩ = some (.int .u64 0) := cell_of_row _ _ _ _ _ _ Z1.out
  have Z1_1 : V1.cell? ⟨w.heap.size, 1, none⟩ = some (.int .u64 0) := cell_of_row _ _ _ _ _ _ Z1.out
  have Z1_f0 : V1.frozen? ⟨w.heap.size, 0, none⟩ = false := by simp [World.frozen?, Z1.out]
  have Z1_f1 : V1.frozen? ⟨w.heap.size, 1, none⟩ = false := by simp [World.frozen?, Z1.out]
  have zZ1 := lt_of_heap Z1.out
  go_simp
  go_wp2_with fail
  refine (H2.out _).mono ?_
  rintro e V2 ⟨rfl, hb2⟩
  clear Z1_0 Z1_1 Z1_f0 Z1_f1 zZ1
  have B2 : Hid (Below w.heap.size w V2) := by first | exact Lib.hid ((B1.out).trans (hb2.mono (by have := B1.out.size; first | assumption | (simp <;> omega) | (simp; done)))) | exact Lib.hid (((B1.out).alloc (B1.out.size) _).trans (hb2.mono (by have := B1.out.size; first | assumption | (simp <;> omega) | (simp; done)))) | exact Lib.hid ((((B1.out).alloc (B1.out.size) _).alloc (by have := B1.out.size; simp <;> omega) _).trans (hb2.mono (by have := B1.out.size; first | assumption | (simp <;> omega) | (simp; done)))) | exact Lib.hid (((((B1.out).alloc (B1.out.size) _).alloc (by have := B1.out.size; simp <;> omega) _).alloc (by have := B1.out.size; simp <;> omega) _).trans (hb2.mono (by have := B1.out.size; first | assumption | (simp <;> omega) | (simp; done))))
  first | replace Z1 := Lib.hid (row_call hb2 Z1.out) | replace Z1 := Lib.hid (row_call hb2 (row_alloc Z1.out _)) | replace Z1 := Lib.hid (row_call hb2 (row_alloc (row_alloc Z1.out _) _)) | replace Z1 := Lib.hid (row_call hb2 (row_alloc (row_alloc (row_alloc Z1.out _) _) _))
  clear hb2
  have Z1_0 : V2.cell? ⟨w.heap.size, 0, none⟩ = some (.int .u64 0) := cell_of_row _ _ _ _ _ _ Z1.out
  have Z1_1 : V2.cell? ⟨w.heap.size, 1, none⟩ = some (.int .u64 0) := cell_of_row _ _ _ _ _ _ Z1.out
  have Z1_f0 : V2.frozen? ⟨w.heap.size, 0, none⟩ = false := by simp [World.frozen?, Z1.out]
  have Z1_f1 : V2.frozen? ⟨w.heap.size, 1, none⟩ = false := by simp [World.frozen?, Z1.out]
  have zZ1 := lt_of_heap Z1.out
  go_simp
  go_wp2_with fail
  refine (H3.out _).mono ?_
  rintro e V3 ⟨rfl, hb3⟩
  clear Z1_0 Z1_1 Z1_f0 Z1_f1 zZ1
  have nZ1P1 := Lib.hid (lt_of_heap Z1.out)
  have nlZ1P1 : ¬ (w.heap.size = V2.heap.size) := Nat.ne_of_lt (lt_of_heap Z1.out)
  have nrZ1P1 : ¬ (V2.heap.size = w.heap.size) := Ne.symm (Nat.ne_of_lt (lt_of_heap Z1.out))
  have B3 := Lib.hid (((B2.out).alloc (B2.out.size) _).trans (hb3.mono (by have := B2.out.size; first | assumption | (simp <;> omega) | (simp; done))))
  replace Z1 := Lib.hid (row_call hb3 (row_alloc Z1.out _))
  have P1 := Lib.hid (row_call hb3 (heap_alloc_new _ _))
  clear hb3
  have Z1_0 : V3.cell? ⟨w.heap.size, 0, none⟩ = some (.int .u64 0) := cell_of_row _ _ _ _ _ _ Z1.out
  have Z1_1 : V3.cell? ⟨w.heap.size, 1, none⟩ = some (.int .u64 0) := cell_of_row _ _ _ _ _ _ Z1.out
  have Z1_f0 : V3.frozen? ⟨w.heap.size, 0, none⟩ = false := by simp [World.frozen?, Z1.out]
  have Z1_f1 : V3.frozen? ⟨w.heap.size, 1, none⟩ = false := by simp [World.frozen?, Z1.out]
  have P1_0 : V3.cell? ⟨V2.heap.size, 0, none⟩ = some (.int .u64 (zh P)) := cell_of_row _ _ _ _ _ _ P1.out
  have P1_1 : V3.cell? ⟨V2.heap.size, 1, none⟩ = some (.int .u64 (zl P)) := cell_of_row _ _ _ _ _ _ P1.out
  have P1_f0 : V3.frozen? ⟨V2.heap.size, 0, none⟩ = false := by simp [World.frozen?, P1.out]
  have P1_f1 : V3.frozen? ⟨V2.heap.size, 1, none⟩ = false := by simp [World.frozen?, P1.out]
  have zZ1 := lt_of_heap Z1.out
  have zP1 := lt_of_heap P1.out
  go_simp
  go_wp2_with fail
  clear Z1_0 Z1_1 Z1_f0 Z1_f1 zZ1 P1_0 P1_1 P1_f0 P1_f1 zP1
  obtain ⟨W0, hW0⟩ : ∃ W0, W0 = ((V3.setCell ⟨V2.heap.size, 0, none⟩ (Value.int .u64 (zh M))).setCell ⟨V2.heap.size, 1, none⟩ (Value.int .u64 (zl M))) := ⟨_, rfl⟩
  replace Z1 := Lib.hid (row_by hW0 (row_other (by have := nZ1P1.out; omega) Z1.out _ _))
  replace P1 := Lib.hid (row_by hW0 (row_set P1.out _ _))
  have HB0 := Lib.hid (below_by hW0 (keep2 (B3.out) (by have := B2.out.size; omega) _ _))
  have HW0 := Lib.hid hW0
  clear hW0
  have Z1_0 : W0.cell? ⟨w.heap.size, 0, none⟩ = some (.int .u64 0) := cell_of_row _ _ _ _ _ _ Z1.out
  have Z1_1 : W0.cell? ⟨w.heap.size, 1, none⟩ = some (.int .u64 0) := cell_of_row _ _ _ _ _ _ Z1.out
  have Z1_f0 : W0.frozen? ⟨w.heap.size, 0, none⟩ = false := (by simp [World.frozen?, Z1.out])
  have Z1_f1 : W0.frozen? ⟨w.heap.size, 1, none⟩ = false := (by simp [World.frozen?, Z1.out])
  have zZ1 := lt_of_heap Z1.out
  have P1_0 : W0.cell? ⟨V2.heap.size, 0, none⟩ = some (.int .u64 (zh M)) := cell_of_row _ _ _ _ _ _ P1.out
  have P1_1 : W0.cell? ⟨V2.heap.size, 1, none⟩ = some (.int .u64 (zl M)) := cell_of_row _ _ _ _ _ _ P1.out
  have P1_f0 : W0.frozen? ⟨V2.heap.size, 0, none⟩ = false := (by simp [World.frozen?, P1.out])
  have P1_f1 : W0.frozen? ⟨V2.heap.size, 1, none⟩ = false := (by simp [World.frozen?, P1.out])
  have zP1 := lt_of_heap P1.out
  try rw [← HW0.out]
  go_cut [6, 7] (fun s6 s7 wx => ∃ gQ1 : Nat, s6 = .pointer (some ⟨gQ1, 0, none⟩) ∧ s7 = .bool c ∧ wx.heap[gQ1]? = some (.cells #[.int .u64 (zh T), .int .u64 (zl T)] 103 (0, 0)) ∧ Below W0.heap.size W0 wx)
  case first =>
    go_region_held3 (fun w' => Below W0.heap.size W0 w' ∧ w'.cell? ⟨V2.heap.size, 0, none⟩ = some (.int .u64 (zh M)) ∧ w'.cell? ⟨V2.heap.size, 1, none⟩ = some (.int .u64 (zl M)))
    (first
      | ((try go_split_ands); refine ⟨(Below.refl _ _).drew, ?_, ?_⟩ <;> first | assumption | (rw [World.cell?_drew]; assumption))
      | ((try go_split_ands); refine ⟨keepS (W0 := W0) ?_ hb1, cellS (W0 := W0) ?_ hb1 ?_ ?_, cellS (W0 := W0) ?_ hb1 ?_ ?_⟩ <;> first | assumption | omega)
      | ((try go_split_ands); refine ⟨keepA (W0 := W0) ?_ _, cellA (W0 := W0) ?_ _ ?_ ?_, cellA (W0 := W0) ?_ _ ?_ ?_⟩ <;> first | assumption | omega)
      | ((try go_split_ands); refine ⟨keepAd (W0 := W0) ?_ _, cellAd (W0 := W0) ?_ _ ?_ ?_, cellAd (W0 := W0) ?_ _ ?_ ?_⟩ <;> first | assumption | omega | exact Below.refl _ _)
      | ((try go_split_ands); (with_reducible refine ⟨keep3 (W0 := W0) ?_ ?_ _ _ _, cell3 (W0 := W0) ?_ _ _ _ ?_ ?_, cell3 (W0 := W0) ?_ _ _ _ ?_ ?_⟩) <;> first | assumption | omega | exact Nat.le_refl _)
      | ((try go_split_ands); refine ⟨keep2 (W0 := W0) ?_ ?_ _ _, cell2 (W0 := W0) ?_ _ _ ?_ ?_, cell2 (W0 := W0) ?_ _ _ ?_ ?_⟩ <;> first | assumption | omega | exact Nat.le_refl _)
      | ((try go_split_ands); refine ⟨keepZ (W0 := W0) ?_ ?_ _, cellZ (W0 := W0) ?_ _ ?_ ?_, cellZ (W0 := W0) ?_ _ ?_ ?_⟩ <;> first | assumption | omega | exact Nat.le_refl _ | exact ⟨_, by assumption⟩))
    (first | (go_at_call 84; (with_reducible refine (H4.out _).mono ?_); rintro e w1 ⟨rfl, hb1⟩; (try go_split_ands); have hge : W0.heap.size ≤ w1.heap.size := (by first | (refine (keepS (W0 := W0) ?_ hb1).size; assumption) | exact (hb1.size : W0.heap.size ≤ w1.heap.size)); (try have hrow := row_call hb1 hrow); (try have hrow := row_new hb1); (try have hrow := row_newd hb1); have hl1 := lt_below hb1; obtain ⟨hc1, hf1⟩ := bcell hb1; (try (have hrc := row_cellA hrow; clear hc1 hf1)); (try have hrf := row_frozA hrow)) | (go_at_call 61; (with_reducible refine (H5.out _).mono ?_); rintro e w1 ⟨rfl, hb1⟩; (try go_split_ands); have hge : W0.heap.size ≤ w1.heap.size := (by first | (refine (keepS (W0 := W0) ?_ hb1).size; assumption) | exact (hb1.size : W0.heap.size ≤ w1.heap.size)); (try have hrow := row_call hb1 hrow); (try have hrow := row_new hb1); (try have hrow := row_newd hb1); have hl1 := lt_below hb1; obtain ⟨hc1, hf1⟩ := bcell hb1; (try (have hrc := row_cellA hrow; clear hc1 hf1)); (try have hrf := row_frozA hrow)))
    all_goals (try go_split_ands)
    all_goals (go_wp2_with fail; go_meet; refine ⟨_, rfl, rfl, ?_, ?_⟩)
    all_goals first | (with_reducible assumption) | (with_reducible exact heap_alloc_new _ _) | (with_reducible exact row_set3 (by assumption) _ _ _) | assumption | exact heap_alloc_new _ _ | exact row_set (by assumption) _ _
  case rest =>
    obtain ⟨gQ1, rfl, rfl, hQ1, hB⟩ := hcut
    obtain ⟨V4, rfl⟩ : ∃ V, V = wc := ⟨_, rfl⟩
    have Q1 := Lib.hid hQ1
    clear hQ1
    clear Z1_0 Z1_1 Z1_f0 Z1_f1 zZ1 P1_0 P1_1 P1_f0 P1_f1 zP1
    replace Z1 := Lib.hid (row_call hB Z1.out)
    replace P1 := Lib.hid (row_call hB P1.out)
    have B4 := Lib.hid (HB0.out.trans (hB.mono HB0.out.size))
    clear hB
    have Z1_0 : V4.cell? ⟨w.heap.size, 0, none⟩ = some (.int .u64 0) := cell_of_row _ _ _ _ _ _ Z1.out
    have Z1_1 : V4.cell? ⟨w.heap.size, 1, none⟩ = some (.int .u64 0) := cell_of_row _ _ _ _ _ _ Z1.out
    have Z1_f0 : V4.frozen? ⟨w.heap.size, 0, none⟩ = false := (by simp [World.frozen?, Z1.out])
    have Z1_f1 : V4.frozen? ⟨w.heap.size, 1, none⟩ = false := (by simp [World.frozen?, Z1.out])
    have zZ1 := lt_of_heap Z1.out
    have P1_0 : V4.cell? ⟨V2.heap.size, 0, none⟩ = some (.int .u64 (zh M)) := cell_of_row _ _ _ _ _ _ P1.out
    have P1_1 : V4.cell? ⟨V2.heap.size, 1, none⟩ = some (.int .u64 (zl M)) := cell_of_row _ _ _ _ _ _ P1.out
    have P1_f0 : V4.frozen? ⟨V2.heap.size, 0, none⟩ = false := (by simp [World.frozen?, P1.out])
    have P1_f1 : V4.frozen? ⟨V2.heap.size, 1, none⟩ = false := (by simp [World.frozen?, P1.out])
    have zP1 := lt_of_heap P1.out
    have Q1_0 : V4.cell? ⟨gQ1, 0, none⟩ = some (.int .u64 (zh T)) := cell_of_row _ _ _ _ _ _ Q1.out
    have Q1_1 : V4.cell? ⟨gQ1, 1, none⟩ = some (.int .u64 (zl T)) := cell_of_row _ _ _ _ _ _ Q1.out
    have zQ1 := lt_of_heap Q1.out
    go_wp2
    refine shut_ret (v := .agg #[.int .u64 (zh T), .int .u64 (zl T)]) (by simp [results, Tryd.results62, go_sem, zZ1, Z1_0, Z1_1]) rfl ⟨rfl, ?_⟩
    exact keep2 B4.out (Nat.le_refl _) _ _
set_option maxHeartbeats 1600000 in
set_option maxRecDepth 100000 in
theorem rWide_pos (s n : Int) (bs : in64 s) (bn : in64 n) (hs : ¬ s < 0) (w : World) :
    Calls Tryd.prog 62 #[.int .i64 s, .int .i64 n] w fun e w' => e = .returned (.agg #[.int .u64 (zh (nanos s n)), .int .u64 (zl (nanos s n))]) ∧ Below w.heap.size w w' := by
  have H1 := Lib.hid (rAmt_any s bs)
  have X2 := rMul_any s.natAbs 1000000000 (natAbs_U bs) (by unfold U; omega)
  rw [show ((1000000000 : Nat) : Int) = 1000000000 from rfl, show ((s.natAbs * 1000000000 : Nat) : Int) = s * 1000000000 by omega] at X2
  have H4 := Lib.hid (rOf_any n bn)
  have H5 := Lib.hid (rAdd_any (s * 1000000000) n)
  rw [show s * 1000000000 + n = nanos s n from rfl] at H5
  have H2 := Lib.hid X2
  clear X2 bs bn
  generalize nanos s n = T at *
  generalize cb (s * 1000000000) n = c at *
  generalize s * 1000000000 = M at *
  generalize s.natAbs = m at *
  go_enter Tryd.func62, Tryd.ntmps62
  refine wp_shut ?_
  go_wp2_with fail
  
  refine (H1.out _).mono ?_
  rintro e V1 ⟨rfl, hb1⟩
  have B1 := Lib.hid (((Below.refl w.heap.size w).alloc (Nat.le_refl _) _).trans (hb1.mono (by first | assumption | (simp <;> omega) | (simp; done))))
  have Z1 := Lib.hid (row_call hb1 (heap_alloc_new _ _))
  clear hb1
  have Z1_0 : V1.cell? ⟨w.heap.size, 0, none⟩ = some (.int .u64 0) := cell_of_row _ _ _ _ _ _ Z1.out
  have Z1_1 : V1.cell? ⟨w.heap.size, 1, none⟩ = some (.int .u64 0) := cell_of_row _ _ _ _ _ _ Z1.out
  have Z1_f0 : V1.frozen? ⟨w.heap.size, 0, none⟩ = false := by simp [World.frozen?, Z1.out]
  have Z1_f1 : V1.frozen? ⟨w.heap.size, 1, none⟩ = false := by simp [World.frozen?, Z1.out]
  have zZ1 := lt_of_heap Z1.out
  go_simp
  go_wp2_with fail
  refine (H2.out _).mono ?_
  rintro e V2 ⟨rfl, hb2⟩
  clear Z1_0 Z1_1 Z1_f0 Z1_f1 zZ1
  have B2 : Hid (Below w.heap.size w V2) := by first | exact Lib.hid ((B1.out).trans (hb2.mono (by have := B1.out.size; first | assumption | (simp <;> omega) | (simp; done)))) | exact Lib.hid (((B1.out).alloc (B1.out.size) _).trans (hb2.mono (by have := B1.out.size; first | assumption | (simp <;> omega) | (simp; done)))) | exact Lib.hid ((((B1.out).alloc (B1.out.size) _).alloc (by have := B1.out.size; simp <;> omega) _).trans (hb2.mono (by have := B1.out.size; first | assumption | (simp <;> omega) | (simp; done)))) | exact Lib.hid (((((B1.out).alloc (B1.out.size) _).alloc (by have := B1.out.size; simp <;> omega) _).alloc (by have := B1.out.size; simp <;> omega) _).trans (hb2.mono (by have := B1.out.size; first | assumption | (simp <;> omega) | (simp; done))))
  first | replace Z1 := Lib.hid (row_call hb2 Z1.out) | replace Z1 := Lib.hid (row_call hb2 (row_alloc Z1.out _)) | replace Z1 := Lib.hid (row_call hb2 (row_alloc (row_alloc Z1.out _) _)) | replace Z1 := Lib.hid (row_call hb2 (row_alloc (row_alloc (row_alloc Z1.out _) _) _))
  clear hb2
  have Z1_0 : V2.cell? ⟨w.heap.size, 0, none⟩ = some (.int .u64 0) := cell_of_row _ _ _ _ _ _ Z1.out
  have Z1_1 : V2.cell? ⟨w.heap.size, 1, none⟩ = some (.int .u64 0) := cell_of_row _ _ _ _ _ _ Z1.out
  have Z1_f0 : V2.frozen? ⟨w.heap.size, 0, none⟩ = false := by simp [World.frozen?, Z1.out]
  have Z1_f1 : V2.frozen? ⟨w.heap.size, 1, none⟩ = false := by simp [World.frozen?, Z1.out]
  have zZ1 := lt_of_heap Z1.out
  go_simp
  go_wp2_with fail
  have nZ1P1 := Lib.hid (lt_of_heap Z1.out)
  have nlZ1P1 : ¬ (w.heap.size = V2.heap.size) := Nat.ne_of_lt (lt_of_heap Z1.out)
  have nrZ1P1 : ¬ (V2.heap.size = w.heap.size) := Ne.symm (Nat.ne_of_lt (lt_of_heap Z1.out))
  clear Z1_0 Z1_1 Z1_f0 Z1_f1 zZ1
  obtain ⟨W0, hW0⟩ : ∃ W0, W0 = (V2.alloc (Obj.cells #[Value.int .u64 (zh M), Value.int .u64 (zl M)] 103)) := ⟨_, rfl⟩
  replace Z1 := Lib.hid (row_by hW0 (row_alloc Z1.out _))
  have P1 := Lib.hid (row_at (k' := V2.heap.size) (by simp) (row_by hW0 (heap_alloc_new _ _)))
  have HB0 := Lib.hid (below_by hW0 ((B2.out).alloc (by have := B2.out.size; simp <;> omega) _))
  have HW0 := Lib.hid hW0
  clear hW0
  have Z1_0 : W0.cell? ⟨w.heap.size, 0, none⟩ = some (.int .u64 0) := cell_of_row _ _ _ _ _ _ Z1.out
  have Z1_1 : W0.cell? ⟨w.heap.size, 1, none⟩ = some (.int .u64 0) := cell_of_row _ _ _ _ _ _ Z1.out
  have Z1_f0 : W0.frozen? ⟨w.heap.size, 0, none⟩ = false := (by simp [World.frozen?, Z1.out])
  have Z1_f1 : W0.frozen? ⟨w.heap.size, 1, none⟩ = false := (by simp [World.frozen?, Z1.out])
  have zZ1 := lt_of_heap Z1.out
  have P1_0 : W0.cell? ⟨V2.heap.size, 0, none⟩ = some (.int .u64 (zh M)) := cell_of_row _ _ _ _ _ _ P1.out
  have P1_1 : W0.cell? ⟨V2.heap.size, 1, none⟩ = some (.int .u64 (zl M)) := cell_of_row _ _ _ _ _ _ P1.out
  have P1_f0 : W0.frozen? ⟨V2.heap.size, 0, none⟩ = false := (by simp [World.frozen?, P1.out])
  have P1_f1 : W0.frozen? ⟨V2.heap.size, 1, none⟩ = false := (by simp [World.frozen?, P1.out])
  have zP1 := lt_of_heap P1.out
  go_upto_region 4 with fail
  try rw [← HW0.out]
  go_cut [6, 7] (fun s6 s7 wx => ∃ gQ1 : Nat, s6 = .pointer (some ⟨gQ1, 0, none⟩) ∧ s7 = .bool c ∧ wx.heap[gQ1]? = some (.cells #[.int .u64 (zh T), .int .u64 (zl T)] 103 (0, 0)) ∧ Below W0.heap.size W0 wx)
  case first =>
    go_region_held3 (fun w' => Below W0.heap.size W0 w' ∧ w'.cell? ⟨V2.heap.size, 0, none⟩ = some (.int .u64 (zh M)) ∧ w'.cell? ⟨V2.heap.size, 1, none⟩ = some (.int .u64 (zl M)))
    (first
      | ((try go_split_ands); refine ⟨(Below.refl _ _).drew, ?_, ?_⟩ <;> first | assumption | (rw [World.cell?_drew]; assumption))
      | ((try go_split_ands); refine ⟨keepS (W0 := W0) ?_ hb1, cellS (W0 := W0) ?_ hb1 ?_ ?_, cellS (W0 := W0) ?_ hb1 ?_ ?_⟩ <;> first | assumption | omega)
      | ((try go_split_ands); refine ⟨keepA (W0 := W0) ?_ _, cellA (W0 := W0) ?_ _ ?_ ?_, cellA (W0 := W0) ?_ _ ?_ ?_⟩ <;> first | assumption | omega)
      | ((try go_split_ands); refine ⟨keepAd (W0 := W0) ?_ _, cellAd (W0 := W0) ?_ _ ?_ ?_, cellAd (W0 := W0) ?_ _ ?_ ?_⟩ <;> first | assumption | omega | exact Below.refl _ _)
      | ((try go_split_ands); (with_reducible refine ⟨keep3 (W0 := W0) ?_ ?_ _ _ _, cell3 (W0 := W0) ?_ _ _ _ ?_ ?_, cell3 (W0 := W0) ?_ _ _ _ ?_ ?_⟩) <;> first | assumption | omega | exact Nat.le_refl _)
      | ((try go_split_ands); refine ⟨keep2 (W0 := W0) ?_ ?_ _ _, cell2 (W0 := W0) ?_ _ _ ?_ ?_, cell2 (W0 := W0) ?_ _ _ ?_ ?_⟩ <;> first | assumption | omega | exact Nat.le_refl _)
      | ((try go_split_ands); refine ⟨keepZ (W0 := W0) ?_ ?_ _, cellZ (W0 := W0) ?_ _ ?_ ?_, cellZ (W0 := W0) ?_ _ ?_ ?_⟩ <;> first | assumption | omega | exact Nat.le_refl _ | exact ⟨_, by assumption⟩))
    (first | (go_at_call 84; (with_reducible refine (H4.out _).mono ?_); rintro e w1 ⟨rfl, hb1⟩; (try go_split_ands); have hge : W0.heap.size ≤ w1.heap.size := (by first | (refine (keepS (W0 := W0) ?_ hb1).size; assumption) | exact (hb1.size : W0.heap.size ≤ w1.heap.size)); (try have hrow := row_call hb1 hrow); (try have hrow := row_new hb1); (try have hrow := row_newd hb1); have hl1 := lt_below hb1; obtain ⟨hc1, hf1⟩ := bcell hb1; (try (have hrc := row_cellA hrow; clear hc1 hf1)); (try have hrf := row_frozA hrow)) | (go_at_call 61; (with_reducible refine (H5.out _).mono ?_); rintro e w1 ⟨rfl, hb1⟩; (try go_split_ands); have hge : W0.heap.size ≤ w1.heap.size := (by first | (refine (keepS (W0 := W0) ?_ hb1).size; assumption) | exact (hb1.size : W0.heap.size ≤ w1.heap.size)); (try have hrow := row_call hb1 hrow); (try have hrow := row_new hb1); (try have hrow := row_newd hb1); have hl1 := lt_below hb1; obtain ⟨hc1, hf1⟩ := bcell hb1; (try (have hrc := row_cellA hrow; clear hc1 hf1)); (try have hrf := row_frozA hrow)))
    all_goals (try go_split_ands)
    all_goals (go_wp2_with fail; go_meet; refine ⟨_, rfl, rfl, ?_, ?_⟩)
    all_goals first | (with_reducible assumption) | (with_reducible exact heap_alloc_new _ _) | (with_reducible exact row_set3 (by assumption) _ _ _) | assumption | exact heap_alloc_new _ _ | exact row_set (by assumption) _ _
  case rest =>
    obtain ⟨gQ1, rfl, rfl, hQ1, hB⟩ := hcut
    obtain ⟨V3, rfl⟩ : ∃ V, V = wc := ⟨_, rfl⟩
    have Q1 := Lib.hid hQ1
    clear hQ1
    clear Z1_0 Z1_1 Z1_f0 Z1_f1 zZ1 P1_0 P1_1 P1_f0 P1_f1 zP1
    replace Z1 := Lib.hid (row_call hB Z1.out)
    replace P1 := Lib.hid (row_call hB P1.out)
    have B3 := Lib.hid (HB0.out.trans (hB.mono HB0.out.size))
    clear hB
    have Z1_0 : V3.cell? ⟨w.heap.size, 0, none⟩ = some (.int .u64 0) := cell_of_row _ _ _ _ _ _ Z1.out
    have Z1_1 : V3.cell? ⟨w.heap.size, 1, none⟩ = some (.int .u64 0) := cell_of_row _ _ _ _ _ _ Z1.out
    have Z1_f0 : V3.frozen? ⟨w.heap.size, 0, none⟩ = false := (by simp [World.frozen?, Z1.out])
    have Z1_f1 : V3.frozen? ⟨w.heap.size, 1, none⟩ = false := (by simp [World.frozen?, Z1.out])
    have zZ1 := lt_of_heap Z1.out
    have P1_0 : V3.cell? ⟨V2.heap.size, 0, none⟩ = some (.int .u64 (zh M)) := cell_of_row _ _ _ _ _ _ P1.out
    have P1_1 : V3.cell? ⟨V2.heap.size, 1, none⟩ = some (.int .u64 (zl M)) := cell_of_row _ _ _ _ _ _ P1.out
    have P1_f0 : V3.frozen? ⟨V2.heap.size, 0, none⟩ = false := (by simp [World.frozen?, P1.out])
    have P1_f1 : V3.frozen? ⟨V2.heap.size, 1, none⟩ = false := (by simp [World.frozen?, P1.out])
    have zP1 := lt_of_heap P1.out
    have Q1_0 : V3.cell? ⟨gQ1, 0, none⟩ = some (.int .u64 (zh T)) := cell_of_row _ _ _ _ _ _ Q1.out
    have Q1_1 : V3.cell? ⟨gQ1, 1, none⟩ = some (.int .u64 (zl T)) := cell_of_row _ _ _ _ _ _ Q1.out
    have zQ1 := lt_of_heap Q1.out
    go_wp2
    refine shut_ret (v := .agg #[.int .u64 (zh T), .int .u64 (zl T)]) (by simp [results, Tryd.results62, go_sem, zZ1, Z1_0, Z1_1]) rfl ⟨rfl, ?_⟩
    exact keep2 B3.out (Nat.le_refl _) _ _
theorem rWide_any (s n : Int) (bs : in64 s) (bn : in64 n) (w : World) :
    Calls Tryd.prog 62 #[.int .i64 s, .int .i64 n] w fun e w' => e = .returned (.agg #[.int .u64 (zh (nanos s n)), .int .u64 (zl (nanos s n))]) ∧ Below w.heap.size w w' := by
  by_cases hs : s < 0
  · exact rWide_neg s n bs bn hs w
  · exact rWide_pos s n bs bn hs w
theorem giga_in (x : Int) (b : in128 x) : in128 (x / 1000000000) := by unfold in128 at *; omega
set_option maxHeartbeats 1600000 in
set_option maxRecDepth 100000 in
theorem rParts_any (x : Int) (b : in128 x) (w : World) :
    Calls Tryd.prog 67 #[.agg #[.int .u64 (zh x), .int .u64 (zl x)]] w fun e w' => e = .returned (.tuple #[.int .i64 (iV (x / 1000000000)), .int .i64 (x % 1000000000), .bool (iE (x / 1000000000) == 0)]) ∧ Below w.heap.size w w' := by
  have X1 := rFloor_all x 1000000000 b (by unfold in64; omega) (by omega)
  have e1 : fq x 1000000000 = x / 1000000000 := by unfold fq; rw [if_pos (by omega)]
  have e2 : fr x 1000000000 = x % 1000000000 := by unfold fr; rw [e1]; omega
  rw [e1, e2] at X1
  have H1 := Lib.hid X1
  have H2 := Lib.hid (rInt_any (x / 1000000000) (giga_in x b))
  clear X1 e1 e2 b
  generalize x % 1000000000 = R at *
  generalize x / 1000000000 = Q at *
  generalize iV Q = S at *
  generalize iE Q = E at *
  go_enter Tryd.func67, Tryd.ntmps67
  go_wp2_with fail
  
  refine (H1.out _).mono ?_
  rintro e V1 ⟨rfl, hb1⟩
  have B1 : Hid (Below w.heap.size w V1) := by first | exact Lib.hid ((Below.refl w.heap.size w).trans (hb1.mono (by first | assumption | (simp <;> omega) | (simp; done)))) | exact Lib.hid (((Below.refl w.heap.size w).alloc (Nat.le_refl _) _).trans (hb1.mono (by first | assumption | (simp <;> omega) | (simp; done)))) | exact Lib.hid ((((Below.refl w.heap.size w).alloc (Nat.le_refl _) _).alloc (by simp <;> omega) _).trans (hb1.mono (by first | assumption | (simp <;> omega) | (simp; done)))) | exact Lib.hid (((((Below.refl w.heap.size w).alloc (Nat.le_refl _) _).alloc (by simp <;> omega) _).alloc (by simp <;> omega) _).trans (hb1.mono (by first | assumption | (simp <;> omega) | (simp; done))))
  clear hb1
  go_simp
  go_wp2_with fail
  refine (H2.out _).mono ?_
  rintro e V2 ⟨rfl, hb2⟩
  have B2 : Hid (Below w.heap.size w V2) := by first | exact Lib.hid ((B1.out).trans (hb2.mono (by have := B1.out.size; first | assumption | (simp <;> omega) | (simp; done)))) | exact Lib.hid (((B1.out).alloc (B1.out.size) _).trans (hb2.mono (by have := B1.out.size; first | assumption | (simp <;> omega) | (simp; done)))) | exact Lib.hid ((((B1.out).alloc (B1.out.size) _).alloc (by have := B1.out.size; simp <;> omega) _).trans (hb2.mono (by have := B1.out.size; first | assumption | (simp <;> omega) | (simp; done)))) | exact Lib.hid (((((B1.out).alloc (B1.out.size) _).alloc (by have := B1.out.size; simp <;> omega) _).alloc (by have := B1.out.size; simp <;> omega) _).trans (hb2.mono (by have := B1.out.size; first | assumption | (simp <;> omega) | (simp; done))))
  clear hb2
  go_simp
  go_wp2
  go_ret3
  exact ⟨rfl, B2.out⟩
set_option maxHeartbeats 1600000 in
set_option maxRecDepth 100000 in
theorem rInstant_any (x : Int) (b : in128 x) (w : World) :
    Calls Tryd.prog 63 #[.agg #[.int .u64 (zh x), .int .u64 (zl x)]] w fun e w' => e = .returned (.tuple #[.agg #[.int .i64 (tkS (-377705116800) 253402300799 x), .int .i64 (tkN (-377705116800) 253402300799 x)], .int .i64 (tkE (-377705116800) 253402300799 x)]) ∧ Below w.heap.size w w' := by
  have X1 := rParts_any x b
  by_cases hq : in64 (x / 1000000000)
  · rw [iV_of hq, iE_of hq, show ((0 : Int) == 0) = true from rfl] at X1
    have H1 := Lib.hid X1
    have YT := @tk_yes (-377705116800) 253402300799 x
    have YN := @tk_no (-377705116800) 253402300799 x
    clear X1 hq b
    generalize x % 1000000000 = R at *
    generalize x / 1000000000 = Q at *
    by_cases h1 : Q < -377705116800
    · obtain ⟨t1, t2, t3⟩ := YN (by omega)
      rw [t1, t2, t3]
      clear YT YN t1 t2 t3
      go_enter Tryd.func63, Tryd.ntmps63
      refine wp_shut ?_
      go_wp2_with fail
      
      refine (H1.out _).mono ?_
      rintro e V1 ⟨rfl, hb1⟩
      have B1 := Lib.hid ((((Below.refl w.heap.size w).alloc (Nat.le_refl _) _).alloc (by simp <;> omega) _).trans (hb1.mono (by first | assumption | (simp <;> omega) | (simp; done))))
      have A1 := Lib.hid (row_call hb1 (row_alloc (heap_alloc_new _ _) _))
      have Z1 := Lib.hid (row_at (k' := w.heap.size + 1) (by simp) (row_call hb1 (heap_alloc_new _ _)))
      clear hb1
      have A1_0 : V1.cell? ⟨w.heap.size, 0, none⟩ = some (.int .u64 (zh x)) := cell_of_row _ _ _ _ _ _ A1.out
      have A1_1 : V1.cell? ⟨w.heap.size, 1, none⟩ = some (.int .u64 (zl x)) := cell_of_row _ _ _ _ _ _ A1.out
      have Z1_0 : V1.cell? ⟨w.heap.size + 1, 0, none⟩ = some (.int .i64 0) := cell_of_row _ _ _ _ _ _ Z1.out
      have Z1_1 : V1.cell? ⟨w.heap.size + 1, 1, none⟩ = some (.int .i64 0) := cell_of_row _ _ _ _ _ _ Z1.out
      have Z1_f0 : V1.frozen? ⟨w.heap.size + 1, 0, none⟩ = false := by simp [World.frozen?, Z1.out]
      have Z1_f1 : V1.frozen? ⟨w.heap.size + 1, 1, none⟩ = false := by simp [World.frozen?, Z1.out]
      have zA1 := lt_of_heap A1.out
      have zZ1 := lt_of_heap Z1.out
      go_simp
      go_wp2
      refine shut_ret (v := .tuple #[.agg #[.int .i64 0, .int .i64 0], .int .i64 8]) (by simp [results, Tryd.results63, go_sem, zZ1, Z1_0, Z1_1]) rfl ⟨rfl, ?_⟩
      exact keep2 B1.out (by omega) _ _
    · by_cases h2 : (253402300799 : Int) < Q
      · obtain ⟨t1, t2, t3⟩ := YN (by omega)
        rw [t1, t2, t3]
        clear YT YN t1 t2 t3
        go_enter Tryd.func63, Tryd.ntmps63
        refine wp_shut ?_
        go_wp2_with fail
        
        refine (H1.out _).mono ?_
        rintro e V1 ⟨rfl, hb1⟩
        have B1 := Lib.hid ((((Below.refl w.heap.size w).alloc (Nat.le_refl _) _).alloc (by simp <;> omega) _).trans (hb1.mono (by first | assumption | (simp <;> omega) | (simp; done))))
        have A1 := Lib.hid (row_call hb1 (row_alloc (heap_alloc_new _ _) _))
        have Z1 := Lib.hid (row_at (k' := w.heap.size + 1) (by simp) (row_call hb1 (heap_alloc_new _ _)))
        clear hb1
        have A1_0 : V1.cell? ⟨w.heap.size, 0, none⟩ = some (.int .u64 (zh x)) := cell_of_row _ _ _ _ _ _ A1.out
        have A1_1 : V1.cell? ⟨w.heap.size, 1, none⟩ = some (.int .u64 (zl x)) := cell_of_row _ _ _ _ _ _ A1.out
        have Z1_0 : V1.cell? ⟨w.heap.size + 1, 0, none⟩ = some (.int .i64 0) := cell_of_row _ _ _ _ _ _ Z1.out
        have Z1_1 : V1.cell? ⟨w.heap.size + 1, 1, none⟩ = some (.int .i64 0) := cell_of_row _ _ _ _ _ _ Z1.out
        have Z1_f0 : V1.frozen? ⟨w.heap.size + 1, 0, none⟩ = false := by simp [World.frozen?, Z1.out]
        have Z1_f1 : V1.frozen? ⟨w.heap.size + 1, 1, none⟩ = false := by simp [World.frozen?, Z1.out]
        have zA1 := lt_of_heap A1.out
        have zZ1 := lt_of_heap Z1.out
        go_simp
        go_wp2
        refine shut_ret (v := .tuple #[.agg #[.int .i64 0, .int .i64 0], .int .i64 8]) (by simp [results, Tryd.results63, go_sem, zZ1, Z1_0, Z1_1]) rfl ⟨rfl, ?_⟩
        exact keep2 B1.out (by omega) _ _
      · obtain ⟨t1, t2, t3⟩ := YT (by omega) (by omega)
        rw [t1, t2, t3]
        clear YT YN t1 t2 t3
        go_enter Tryd.func63, Tryd.ntmps63
        refine wp_shut ?_
        go_wp2_with fail
        
        refine (H1.out _).mono ?_
        rintro e V1 ⟨rfl, hb1⟩
        have B1 := Lib.hid ((((Below.refl w.heap.size w).alloc (Nat.le_refl _) _).alloc (by simp <;> omega) _).trans (hb1.mono (by first | assumption | (simp <;> omega) | (simp; done))))
        have A1 := Lib.hid (row_call hb1 (row_alloc (heap_alloc_new _ _) _))
        have Z1 := Lib.hid (row_at (k' := w.heap.size + 1) (by simp) (row_call hb1 (heap_alloc_new _ _)))
        clear hb1
        have A1_0 : V1.cell? ⟨w.heap.size, 0, none⟩ = some (.int .u64 (zh x)) := cell_of_row _ _ _ _ _ _ A1.out
        have A1_1 : V1.cell? ⟨w.heap.size, 1, none⟩ = some (.int .u64 (zl x)) := cell_of_row _ _ _ _ _ _ A1.out
        have Z1_0 : V1.cell? ⟨w.heap.size + 1, 0, none⟩ = some (.int .i64 0) := cell_of_row _ _ _ _ _ _ Z1.out
        have Z1_1 : V1.cell? ⟨w.heap.size + 1, 1, none⟩ = some (.int .i64 0) := cell_of_row _ _ _ _ _ _ Z1.out
        have Z1_f0 : V1.frozen? ⟨w.heap.size + 1, 0, none⟩ = false := by simp [World.frozen?, Z1.out]
        have Z1_f1 : V1.frozen? ⟨w.heap.size + 1, 1, none⟩ = false := by simp [World.frozen?, Z1.out]
        have zA1 := lt_of_heap A1.out
        have zZ1 := lt_of_heap Z1.out
        go_simp
        go_wp2
        refine shut_ret (v := .tuple #[.agg #[.int .i64 Q, .int .i64 R], .int .i64 0]) (by simp [results, Tryd.results63, go_sem, zZ1, Z1_0, Z1_1]) rfl ⟨rfl, ?_⟩
        exact keep2 B1.out (by omega) _ _
  · rw [iV_not hq, iE_not hq, show ((8 : Int) == 0) = false from rfl] at X1
    obtain ⟨t1, t2, t3⟩ := @tk_no (-377705116800) 253402300799 x (by unfold in64 at hq; omega)
    rw [t1, t2, t3]
    have H1 := Lib.hid X1
    clear X1 t1 t2 t3 hq b
    generalize x % 1000000000 = R at *
    go_enter Tryd.func63, Tryd.ntmps63
    refine wp_shut ?_
    go_wp2_with fail
    
    refine (H1.out _).mono ?_
    rintro e V1 ⟨rfl, hb1⟩
    have B1 := Lib.hid ((((Below.refl w.heap.size w).alloc (Nat.le_refl _) _).alloc (by simp <;> omega) _).trans (hb1.mono (by first | assumption | (simp <;> omega) | (simp; done))))
    have A1 := Lib.hid (row_call hb1 (row_alloc (heap_alloc_new _ _) _))
    have Z1 := Lib.hid (row_at (k' := w.heap.size + 1) (by simp) (row_call hb1 (heap_alloc_new _ _)))
    clear hb1
    have A1_0 : V1.cell? ⟨w.heap.size, 0, none⟩ = some (.int .u64 (zh x)) := cell_of_row _ _ _ _ _ _ A1.out
    have A1_1 : V1.cell? ⟨w.heap.size, 1, none⟩ = some (.int .u64 (zl x)) := cell_of_row _ _ _ _ _ _ A1.out
    have Z1_0 : V1.cell? ⟨w.heap.size + 1, 0, none⟩ = some (.int .i64 0) := cell_of_row _ _ _ _ _ _ Z1.out
    have Z1_1 : V1.cell? ⟨w.heap.size + 1, 1, none⟩ = some (.int .i64 0) := cell_of_row _ _ _ _ _ _ Z1.out
    have Z1_f0 : V1.frozen? ⟨w.heap.size + 1, 0, none⟩ = false := by simp [World.frozen?, Z1.out]
    have Z1_f1 : V1.frozen? ⟨w.heap.size + 1, 1, none⟩ = false := by simp [World.frozen?, Z1.out]
    have zA1 := lt_of_heap A1.out
    have zZ1 := lt_of_heap Z1.out
    go_simp
    go_wp2
    refine shut_ret (v := .tuple #[.agg #[.int .i64 0, .int .i64 0], .int .i64 8]) (by simp [results, Tryd.results63, go_sem, zZ1, Z1_0, Z1_1]) rfl ⟨rfl, ?_⟩
    exact keep2 B1.out (by omega) _ _
theorem zh_zero : zh 0 = 0 := by unfold zh hi zw; rfl
theorem zl_zero : zl 0 = 0 := by unfold zl lo zw; rfl
end Go.Proofs.YtaoljjhhbmblhaaDoor
namespace Go.Proofs.YtaoljjhhbmblhaaDoor
set_option linter.unusedVariables false
set_option linter.unusedSimpArgs false
open Go.ChangeShapes Go.WideShapes Go.ChangeAt Go.RowKit
@[irreducible] def adE (s n d m : Int) : Int := if wmB m = false then 5 else if ckI s n = 0 then tkE (-377705116800) 253402300799 (nanos s n + nanos d m) else ckI s n
@[irreducible] def adS (s n d m : Int) : Int := if wmB m = false then 0 else if ckI s n = 0 then tkS (-377705116800) 253402300799 (nanos s n + nanos d m) else 0
@[irreducible] def adN (s n d m : Int) : Int := if wmB m = false then 0 else if ckI s n = 0 then tkN (-377705116800) 253402300799 (nanos s n + nanos d m) else 0
theorem ad_form {s n d m : Int} (h : wmB m = false) : adE s n d m = 5 ∧ adS s n d m = 0 ∧ adN s n d m = 0 := by
  unfold adE adS adN; exact ⟨if_pos h, if_pos h, if_pos h⟩
theorem ad_err {s n d m : Int} (h : wmB m = true) (hc : ckI s n ≠ 0) : adE s n d m = ckI s n ∧ adS s n d m = 0 ∧ adN s n d m = 0 := by
  have h2 : ¬ wmB m = false := by rw [h]; decide
  unfold adE adS adN; rw [if_neg h2, if_neg h2, if_neg h2]; exact ⟨if_neg hc, if_neg hc, if_neg hc⟩
theorem ad_sum {s n d m : Int} (h : wmB m = true) (hc : ckI s n = 0) : adE s n d m = tkE (-377705116800) 253402300799 (nanos s n + nanos d m) ∧ adS s n d m = tkS (-377705116800) 253402300799 (nanos s n + nanos d m) ∧ adN s n d m = tkN (-377705116800) 253402300799 (nanos s n + nanos d m) := by
  have h2 : ¬ wmB m = false := by rw [h]; decide
  unfold adE adS adN; rw [if_neg h2, if_neg h2, if_neg h2]; exact ⟨if_pos hc, if_pos hc, if_pos hc⟩
theorem sum_in {s n d m : Int} (bs : in64 s) (bn : in64 n) (bd : in64 d) (bm : in64 m) : in128 (nanos s n + nanos d m) ∧ in128 (nanos s n - nanos d m) := by unfold in64 at *; unfold in128 nanos; omega
theorem fs_ad {s n d m : Int} (h : ckI s n = 0 → ckD d m = 0 → False) : fsI (ckI s n) (ckD d m) ≠ 0 ∧ adE s n d m = fsI (ckI s n) (ckD d m) ∧ adS s n d m = 0 ∧ adN s n d m = 0 := by
  cases hw : wmB m
  · obtain ⟨t1, t2, t3⟩ := ad_form (s := s) (n := n) (d := d) hw
    rw [ckD_wm hw, t1, t2, t3]
    have : fsI (ckI s n) 5 = 5 := by
      unfold fsI
      rcases ckI_three s n with h | h | h <;> rw [h] <;> rfl
    rw [this]
    exact ⟨by decide, rfl, rfl, rfl⟩
  · by_cases hc : ckI s n = 0
    · have h8 : ckD d m = 8 := by
        rcases ckD_three d m with h1 | h1 | h1
        · exact absurd h1 (h hc)
        · exfalso
          unfold ckD at h1
          rw [if_pos hw] at h1
          split at h1 <;> omega
        · exact h1
      obtain ⟨t1, t2, t3⟩ := ad_sum (d := d) hw hc
      obtain ⟨_, o1⟩ := of_ckD8 h8
      obtain ⟨o2, o3, o4⟩ := of_ckI hc
      have o5 := of_wmB o2
      have o6 := of_wmB hw
      have hn : ¬ (-377705116800 ≤ (nanos s n + nanos d m) / 1000000000 ∧ (nanos s n + nanos d m) / 1000000000 ≤ 253402300799) := by unfold nanos; omega
      obtain ⟨u1, u2, u3⟩ := tk_no hn
      rw [t1, t2, t3, u1, u2, u3, hc, h8]
      exact ⟨by unfold fsI; decide, by unfold fsI; decide, rfl, rfl⟩
    · obtain ⟨t1, t2, t3⟩ := ad_err (d := d) hw hc
      rw [t1, t2, t3]
      have hd : ckD d m = 0 ∨ ckD d m = 8 := by
        unfold ckD; rw [if_pos hw]; split
        · exact Or.inr rfl
        · exact Or.inl rfl
      have : fsI (ckI s n) (ckD d m) = ckI s n := by
        unfold fsI
        rcases ckI_three s n with h | h | h
        · exact absurd h hc
        · rcases hd with h2 | h2 <;> rw [h, h2] <;> rfl
        · rcases hd with h2 | h2 <;> rw [h, h2] <;> rfl
      rw [this]
      exact ⟨hc, rfl, rfl, rfl⟩
set_option maxHeartbeats 16000000 in
set_option maxRecDepth 100000 in
theorem riAdd_any (s n d m : Int) (bs : in64 s) (bn : in64 n) (bd : in64 d) (bm : in64 m) (w : World) :
    Calls Tryd.prog 36 #[.agg #[.int .i64 s, .int .i64 n], .agg #[.int .i64 d, .int .i64 m]] w fun e w' => e = .returned (.tuple #[.agg #[.int .i64 (adS s n d m), .int .i64 (adN s n d m)], .int .i64 (adE s n d m)]) ∧ Below w.heap.size w w' := by
  have H1 := Lib.hid (rCheck_any s n)
  have H2 := Lib.hid (rCheckDur_any d m)
  by_cases hc : ckI s n = 0 ∧ ckD d m = 0
  · obtain ⟨t1, t2, t3⟩ := ad_sum (d := d) (of_ckD hc.2).1 hc.1
    rw [t1, t2, t3]
    have X3 := rFirst_any (ckI s n) (ckD d m)
    have e0 : fsI (ckI s n) (ckD d m) = 0 := by rw [hc.1, hc.2]; unfold fsI; rfl
    rw [e0] at X3
    have H3 := Lib.hid X3
    have H4 := Lib.hid (rWide_any s n bs bn)
    have H5 := Lib.hid (rWide_any d m bd bm)
    have H6 := Lib.hid (rAdd_any (nanos s n) (nanos d m))
    have H7 := Lib.hid (rInstant_any (nanos s n + nanos d m) (sum_in bs bn bd bm).1)
    clear X3 t1 t2 t3 hc bs bn bd bm e0
    generalize cb (nanos s n) (nanos d m) = c at *
    generalize nanos s n + nanos d m = T at *
    generalize nanos s n = P at *
    generalize nanos d m = Q at *
    generalize tkS (-377705116800) 253402300799 T = S at *
    generalize tkN (-377705116800) 253402300799 T = N at *
    generalize tkE (-377705116800) 253402300799 T = E at *
    generalize ckI s n = c1 at *
    generalize ckD d m = c2 at *
    go_enter Tryd.func36, Tryd.ntmps36
    refine wp_shut ?_
    go_wp2_with fail
    
    obtain ⟨W0, hW0⟩ : ∃ W0, W0 = (((w.alloc (Obj.cells #[Value.int .i64 s, Value.int .i64 n] 75)).alloc (Obj.cells #[Value.int .i64 d, Value.int .i64 m] 42)).alloc (Obj.cells #[Value.int .i64 0, Value.int .i64 0] 75)) := ⟨_, rfl⟩
    have A1 := Lib.hid (row_at (k' := w.heap.size) (by simp) (row_by hW0 (row_alloc (row_alloc (heap_alloc_new _ _) _) _)))
    have D1 := Lib.hid (row_at (k' := w.heap.size + 1) (by simp) (row_by hW0 (row_alloc (heap_alloc_new _ _) _)))
    have Z1 := Lib.hid (row_at (k' := w.heap.size + 1 + 1) (by simp) (row_by hW0 (heap_alloc_new _ _)))
    have HB0 := Lib.hid (below_by hW0 ((((Below.refl w.heap.size w).alloc (by simp <;> omega) _).alloc (by simp <;> omega) _).alloc (by simp <;> omega) _))
    have HW0 := Lib.hid hW0
    clear hW0
    have A1_0 : W0.cell? ⟨w.heap.size, 0, none⟩ = some (.int .i64 s) := cell_of_row _ _ _ _ _ _ A1.out
    have A1_1 : W0.cell? ⟨w.heap.size, 1, none⟩ = some (.int .i64 n) := cell_of_row _ _ _ _ _ _ A1.out
    have zA1 := lt_of_heap A1.out
    have D1_0 : W0.cell? ⟨w.heap.size + 1, 0, none⟩ = some (.int .i64 d) := cell_of_row _ _ _ _ _ _ D1.out
    have D1_1 : W0.cell? ⟨w.heap.size + 1, 1, none⟩ = some (.int .i64 m) := cell_of_row _ _ _ _ _ _ D1.out
    have zD1 := lt_of_heap D1.out
    have Z1_0 : W0.cell? ⟨w.heap.size + 1 + 1, 0, none⟩ = some (.int .i64 0) := cell_of_row _ _ _ _ _ _ Z1.out
    have Z1_1 : W0.cell? ⟨w.heap.size + 1 + 1, 1, none⟩ = some (.int .i64 0) := cell_of_row _ _ _ _ _ _ Z1.out
    have Z1_f0 : W0.frozen? ⟨w.heap.size + 1 + 1, 0, none⟩ = false := (by simp [World.frozen?, Z1.out])
    have Z1_f1 : W0.frozen? ⟨w.heap.size + 1 + 1, 1, none⟩ = false := (by simp [World.frozen?, Z1.out])
    have zZ1 := lt_of_heap Z1.out
    try rw [← HW0.out]
    go_cut [6] (fun s6 wx => s6 = .int .i64 0 ∧ Below W0.heap.size W0 wx)
    case first =>
      go_region_held3 (fun w' => Below W0.heap.size W0 w' ∧ w'.cell? ⟨w.heap.size, 0, none⟩ = some (.int .i64 s) ∧ w'.cell? ⟨w.heap.size, 1, none⟩ = some (.int .i64 n) ∧ w'.cell? ⟨w.heap.size + 1, 0, none⟩ = some (.int .i64 d) ∧ w'.cell? ⟨w.heap.size + 1, 1, none⟩ = some (.int .i64 m))
    (first
      | ((try go_split_ands); refine ⟨(Below.refl _ _).drew, ?_, ?_, ?_, ?_⟩ <;> first | assumption | (rw [World.cell?_drew]; assumption))
      | ((try go_split_ands); refine ⟨keepS (W0 := W0) ?_ hb1, cellS (W0 := W0) ?_ hb1 ?_ ?_, cellS (W0 := W0) ?_ hb1 ?_ ?_, cellS (W0 := W0) ?_ hb1 ?_ ?_, cellS (W0 := W0) ?_ hb1 ?_ ?_⟩ <;> first | assumption | omega)
      | ((try go_split_ands); refine ⟨keepA (W0 := W0) ?_ _, cellA (W0 := W0) ?_ _ ?_ ?_, cellA (W0 := W0) ?_ _ ?_ ?_, cellA (W0 := W0) ?_ _ ?_ ?_, cellA (W0 := W0) ?_ _ ?_ ?_⟩ <;> first | assumption | omega)
      | ((try go_split_ands); refine ⟨keepAd (W0 := W0) ?_ _, cellAd (W0 := W0) ?_ _ ?_ ?_, cellAd (W0 := W0) ?_ _ ?_ ?_, cellAd (W0 := W0) ?_ _ ?_ ?_, cellAd (W0 := W0) ?_ _ ?_ ?_⟩ <;> first | assumption | omega | exact Below.refl _ _)
      | ((try go_split_ands); (with_reducible refine ⟨keep3 (W0 := W0) ?_ ?_ _ _ _, cell3 (W0 := W0) ?_ _ _ _ ?_ ?_, cell3 (W0 := W0) ?_ _ _ _ ?_ ?_, cell3 (W0 := W0) ?_ _ _ _ ?_ ?_, cell3 (W0 := W0) ?_ _ _ _ ?_ ?_⟩) <;> first | assumption | omega | exact Nat.le_refl _)
      | ((try go_split_ands); refine ⟨keep2 (W0 := W0) ?_ ?_ _ _, cell2 (W0 := W0) ?_ _ _ ?_ ?_, cell2 (W0 := W0) ?_ _ _ ?_ ?_, cell2 (W0 := W0) ?_ _ _ ?_ ?_, cell2 (W0 := W0) ?_ _ _ ?_ ?_⟩ <;> first | assumption | omega | exact Nat.le_refl _)
      | ((try go_split_ands); refine ⟨keepZ (W0 := W0) ?_ ?_ _, cellZ (W0 := W0) ?_ _ ?_ ?_, cellZ (W0 := W0) ?_ _ ?_ ?_, cellZ (W0 := W0) ?_ _ ?_ ?_, cellZ (W0 := W0) ?_ _ ?_ ?_⟩ <;> first | assumption | omega | exact Nat.le_refl _ | exact ⟨_, by assumption⟩))
    (first | (go_at_call 60; (with_reducible refine (H1.out _).mono ?_); rintro e w1 ⟨rfl, hb1⟩; (try go_split_ands); have hge : W0.heap.size ≤ w1.heap.size := (by first | (refine (keepS (W0 := W0) ?_ hb1).size; assumption) | exact (hb1.size : W0.heap.size ≤ w1.heap.size)); (try have hrow := row_call hb1 hrow); (try have hrow := row_new hb1); (try have hrow := row_newd hb1); have hl1 := lt_below hb1; obtain ⟨hc1, hf1⟩ := bcell hb1; (try (have hrc := row_cellA hrow; clear hc1 hf1)); (try have hrf := row_frozA hrow)) | (go_at_call 35; (with_reducible refine (H2.out _).mono ?_); rintro e w1 ⟨rfl, hb1⟩; (try go_split_ands); have hge : W0.heap.size ≤ w1.heap.size := (by first | (refine (keepS (W0 := W0) ?_ hb1).size; assumption) | exact (hb1.size : W0.heap.size ≤ w1.heap.size)); (try have hrow := row_call hb1 hrow); (try have hrow := row_new hb1); (try have hrow := row_newd hb1); have hl1 := lt_below hb1; obtain ⟨hc1, hf1⟩ := bcell hb1; (try (have hrc := row_cellA hrow; clear hc1 hf1)); (try have hrf := row_frozA hrow)) | (go_at_call 34; refine (H3.out _ _ (by simp [go_sem]) (by simp [go_sem])).mono ?_; rintro e w1 ⟨rfl, hb1⟩; (try go_split_ands); have hge : W0.heap.size ≤ w1.heap.size := (by first | (refine (keepS (W0 := W0) ?_ hb1).size; assumption) | exact (hb1.size : W0.heap.size ≤ w1.heap.size)); (try have hrow := row_call hb1 hrow); (try have hrow := row_new hb1); (try have hrow := row_newd hb1); have hl1 := lt_below hb1; obtain ⟨hc1, hf1⟩ := bcell hb1; (try (have hrc := row_cellA hrow; clear hc1 hf1)); (try have hrf := row_frozA hrow)))
      all_goals (try go_split_ands)
      all_goals (go_wp2_with fail; go_meet; refine ⟨rfl, ?_⟩)
      all_goals first | (with_reducible assumption) | (with_reducible exact heap_alloc_new _ _) | (with_reducible exact row_set3 (by assumption) _ _ _) | assumption | exact heap_alloc_new _ _ | exact row_set (by assumption) _ _
    case rest =>
      obtain ⟨rfl, hB⟩ := hcut
      obtain ⟨V1, rfl⟩ : ∃ V, V = wc := ⟨_, rfl⟩
      clear A1_0 A1_1 zA1 D1_0 D1_1 zD1 Z1_0 Z1_1 Z1_f0 Z1_f1 zZ1
      replace A1 := Lib.hid (row_call hB A1.out)
      replace D1 := Lib.hid (row_call hB D1.out)
      replace Z1 := Lib.hid (row_call hB Z1.out)
      have B1 := Lib.hid (HB0.out.trans (hB.mono HB0.out.size))
      clear hB
      have A1_0 : V1.cell? ⟨w.heap.size, 0, none⟩ = some (.int .i64 s) := cell_of_row _ _ _ _ _ _ A1.out
      have A1_1 : V1.cell? ⟨w.heap.size, 1, none⟩ = some (.int .i64 n) := cell_of_row _ _ _ _ _ _ A1.out
      have zA1 := lt_of_heap A1.out
      have D1_0 : V1.cell? ⟨w.heap.size + 1, 0, none⟩ = some (.int .i64 d) := cell_of_row _ _ _ _ _ _ D1.out
      have D1_1 : V1.cell? ⟨w.heap.size + 1, 1, none⟩ = some (.int .i64 m) := cell_of_row _ _ _ _ _ _ D1.out
      have zD1 := lt_of_heap D1.out
      have Z1_0 : V1.cell? ⟨w.heap.size + 1 + 1, 0, none⟩ = some (.int .i64 0) := cell_of_row _ _ _ _ _ _ Z1.out
      have Z1_1 : V1.cell? ⟨w.heap.size + 1 + 1, 1, none⟩ = some (.int .i64 0) := cell_of_row _ _ _ _ _ _ Z1.out
      have Z1_f0 : V1.frozen? ⟨w.heap.size + 1 + 1, 0, none⟩ = false := (by simp [World.frozen?, Z1.out])
      have Z1_f1 : V1.frozen? ⟨w.heap.size + 1 + 1, 1, none⟩ = false := (by simp [World.frozen?, Z1.out])
      have zZ1 := lt_of_heap Z1.out
      go_wp2_with fail
      clear A1_0 A1_1 zA1 D1_0 D1_1 zD1 Z1_0 Z1_1 Z1_f0 Z1_f1 zZ1
      obtain ⟨W0, hW0⟩ : ∃ W0, W0 = V1 := ⟨_, rfl⟩
      replace A1 := Lib.hid (row_by hW0 A1.out)
      replace D1 := Lib.hid (row_by hW0 D1.out)
      replace Z1 := Lib.hid (row_by hW0 Z1.out)
      have HB0 := Lib.hid (below_by hW0 (B1.out))
      have HW0 := Lib.hid hW0
      clear hW0
      have A1_0 : W0.cell? ⟨w.heap.size, 0, none⟩ = some (.int .i64 s) := cell_of_row _ _ _ _ _ _ A1.out
      have A1_1 : W0.cell? ⟨w.heap.size, 1, none⟩ = some (.int .i64 n) := cell_of_row _ _ _ _ _ _ A1.out
      have zA1 := lt_of_heap A1.out
      have D1_0 : W0.cell? ⟨w.heap.size + 1, 0, none⟩ = some (.int .i64 d) := cell_of_row _ _ _ _ _ _ D1.out
      have D1_1 : W0.cell? ⟨w.heap.size + 1, 1, none⟩ = some (.int .i64 m) := cell_of_row _ _ _ _ _ _ D1.out
      have zD1 := lt_of_heap D1.out
      have Z1_0 : W0.cell? ⟨w.heap.size + 1 + 1, 0, none⟩ = some (.int .i64 0) := cell_of_row _ _ _ _ _ _ Z1.out
      have Z1_1 : W0.cell? ⟨w.heap.size + 1 + 1, 1, none⟩ = some (.int .i64 0) := cell_of_row _ _ _ _ _ _ Z1.out
      have Z1_f0 : W0.frozen? ⟨w.heap.size + 1 + 1, 0, none⟩ = false := (by simp [World.frozen?, Z1.out])
      have Z1_f1 : W0.frozen? ⟨w.heap.size + 1 + 1, 1, none⟩ = false := (by simp [World.frozen?, Z1.out])
      have zZ1 := lt_of_heap Z1.out
      try rw [← HW0.out]
      go_cut [7, 8] (fun s7 s8 wx => ∃ gS1 : Nat, s7 = .pointer (some ⟨gS1, 0, none⟩) ∧ s8 = .bool c ∧ wx.heap[gS1]? = some (.cells #[.int .u64 (zh T), .int .u64 (zl T)] 103 (0, 0)) ∧ Below W0.heap.size W0 wx)
      case first =>
        go_region_held3 (fun w' => Below W0.heap.size W0 w' ∧ w'.cell? ⟨w.heap.size, 0, none⟩ = some (.int .i64 s) ∧ w'.cell? ⟨w.heap.size, 1, none⟩ = some (.int .i64 n) ∧ w'.cell? ⟨w.heap.size + 1, 0, none⟩ = some (.int .i64 d) ∧ w'.cell? ⟨w.heap.size + 1, 1, none⟩ = some (.int .i64 m))
    (first
      | ((try go_split_ands); refine ⟨(Below.refl _ _).drew, ?_, ?_, ?_, ?_⟩ <;> first | assumption | (rw [World.cell?_drew]; assumption))
      | ((try go_split_ands); refine ⟨keepS (W0 := W0) ?_ hb1, cellS (W0 := W0) ?_ hb1 ?_ ?_, cellS (W0 := W0) ?_ hb1 ?_ ?_, cellS (W0 := W0) ?_ hb1 ?_ ?_, cellS (W0 := W0) ?_ hb1 ?_ ?_⟩ <;> first | assumption | omega)
      | ((try go_split_ands); refine ⟨keepA (W0 := W0) ?_ _, cellA (W0 := W0) ?_ _ ?_ ?_, cellA (W0 := W0) ?_ _ ?_ ?_, cellA (W0 := W0) ?_ _ ?_ ?_, cellA (W0 := W0) ?_ _ ?_ ?_⟩ <;> first | assumption | omega)
      | ((try go_split_ands); refine ⟨keepAd (W0 := W0) ?_ _, cellAd (W0 := W0) ?_ _ ?_ ?_, cellAd (W0 := W0) ?_ _ ?_ ?_, cellAd (W0 := W0) ?_ _ ?_ ?_, cellAd (W0 := W0) ?_ _ ?_ ?_⟩ <;> first | assumption | omega | exact Below.refl _ _)
      | ((try go_split_ands); (with_reducible refine ⟨keep3 (W0 := W0) ?_ ?_ _ _ _, cell3 (W0 := W0) ?_ _ _ _ ?_ ?_, cell3 (W0 := W0) ?_ _ _ _ ?_ ?_, cell3 (W0 := W0) ?_ _ _ _ ?_ ?_, cell3 (W0 := W0) ?_ _ _ _ ?_ ?_⟩) <;> first | assumption | omega | exact Nat.le_refl _)
      | ((try go_split_ands); refine ⟨keep2 (W0 := W0) ?_ ?_ _ _, cell2 (W0 := W0) ?_ _ _ ?_ ?_, cell2 (W0 := W0) ?_ _ _ ?_ ?_, cell2 (W0 := W0) ?_ _ _ ?_ ?_, cell2 (W0 := W0) ?_ _ _ ?_ ?_⟩ <;> first | assumption | omega | exact Nat.le_refl _)
      | ((try go_split_ands); refine ⟨keepZ (W0 := W0) ?_ ?_ _, cellZ (W0 := W0) ?_ _ ?_ ?_, cellZ (W0 := W0) ?_ _ ?_ ?_, cellZ (W0 := W0) ?_ _ ?_ ?_, cellZ (W0 := W0) ?_ _ ?_ ?_⟩ <;> first | assumption | omega | exact Nat.le_refl _ | exact ⟨_, by assumption⟩))
    (first | (go_at_call 62; (with_reducible refine (H4.out _).mono ?_); rintro e w1 ⟨rfl, hb1⟩; (try go_split_ands); have hge : W0.heap.size ≤ w1.heap.size := (by first | (refine (keepS (W0 := W0) ?_ hb1).size; assumption) | exact (hb1.size : W0.heap.size ≤ w1.heap.size)); (try have hrow := row_call hb1 hrow); (try have hrow := row_new hb1); (try have hrow := row_newd hb1); have hl1 := lt_below hb1; obtain ⟨hc1, hf1⟩ := bcell hb1; (try (have hrc := row_cellA hrow; clear hc1 hf1)); (try have hrf := row_frozA hrow)) | (go_at_call 62; (with_reducible refine (H5.out _).mono ?_); rintro e w1 ⟨rfl, hb1⟩; (try go_split_ands); have hge : W0.heap.size ≤ w1.heap.size := (by first | (refine (keepS (W0 := W0) ?_ hb1).size; assumption) | exact (hb1.size : W0.heap.size ≤ w1.heap.size)); (try have hrow := row_call hb1 hrow); (try have hrow := row_new hb1); (try have hrow := row_newd hb1); have hl1 := lt_below hb1; obtain ⟨hc1, hf1⟩ := bcell hb1; (try (have hrc := row_cellA hrow; clear hc1 hf1)); (try have hrf := row_frozA hrow)) | (go_at_call 61; (with_reducible refine (H6.out _).mono ?_); rintro e w1 ⟨rfl, hb1⟩; (try go_split_ands); have hge : W0.heap.size ≤ w1.heap.size := (by first | (refine (keepS (W0 := W0) ?_ hb1).size; assumption) | exact (hb1.size : W0.heap.size ≤ w1.heap.size)); (try have hrow := row_call hb1 hrow); (try have hrow := row_new hb1); (try have hrow := row_newd hb1); have hl1 := lt_below hb1; obtain ⟨hc1, hf1⟩ := bcell hb1; (try (have hrc := row_cellA hrow; clear hc1 hf1)); (try have hrf := row_frozA hrow)))
        all_goals (try go_split_ands)
        all_goals (go_wp2_with fail; go_meet; refine ⟨_, rfl, rfl, ?_, ?_⟩)
        all_goals first | (with_reducible assumption) | (with_reducible exact heap_alloc_new _ _) | (with_reducible exact row_set3 (by assumption) _ _ _) | assumption | exact heap_alloc_new _ _ | exact row_set (by assumption) _ _
      case rest =>
        obtain ⟨gS1, rfl, rfl, hS1, hB⟩ := hcut
        obtain ⟨V2, rfl⟩ : ∃ V, V = wc := ⟨_, rfl⟩
        have S1 := Lib.hid hS1
        clear hS1
        clear A1_0 A1_1 zA1 D1_0 D1_1 zD1 Z1_0 Z1_1 Z1_f0 Z1_f1 zZ1
        replace A1 := Lib.hid (row_call hB A1.out)
        replace D1 := Lib.hid (row_call hB D1.out)
        replace Z1 := Lib.hid (row_call hB Z1.out)
        have B2 := Lib.hid (HB0.out.trans (hB.mono HB0.out.size))
        clear hB
        have A1_0 : V2.cell? ⟨w.heap.size, 0, none⟩ = some (.int .i64 s) := cell_of_row _ _ _ _ _ _ A1.out
        have A1_1 : V2.cell? ⟨w.heap.size, 1, none⟩ = some (.int .i64 n) := cell_of_row _ _ _ _ _ _ A1.out
        have zA1 := lt_of_heap A1.out
        have D1_0 : V2.cell? ⟨w.heap.size + 1, 0, none⟩ = some (.int .i64 d) := cell_of_row _ _ _ _ _ _ D1.out
        have D1_1 : V2.cell? ⟨w.heap.size + 1, 1, none⟩ = some (.int .i64 m) := cell_of_row _ _ _ _ _ _ D1.out
        have zD1 := lt_of_heap D1.out
        have Z1_0 : V2.cell? ⟨w.heap.size + 1 + 1, 0, none⟩ = some (.int .i64 0) := cell_of_row _ _ _ _ _ _ Z1.out
        have Z1_1 : V2.cell? ⟨w.heap.size + 1 + 1, 1, none⟩ = some (.int .i64 0) := cell_of_row _ _ _ _ _ _ Z1.out
        have Z1_f0 : V2.frozen? ⟨w.heap.size + 1 + 1, 0, none⟩ = false := (by simp [World.frozen?, Z1.out])
        have Z1_f1 : V2.frozen? ⟨w.heap.size + 1 + 1, 1, none⟩ = false := (by simp [World.frozen?, Z1.out])
        have zZ1 := lt_of_heap Z1.out
        have S1_0 : V2.cell? ⟨gS1, 0, none⟩ = some (.int .u64 (zh T)) := cell_of_row _ _ _ _ _ _ S1.out
        have S1_1 : V2.cell? ⟨gS1, 1, none⟩ = some (.int .u64 (zl T)) := cell_of_row _ _ _ _ _ _ S1.out
        have zS1 := lt_of_heap S1.out
        go_wp2_with fail
        refine (H7.out _).mono ?_
        rintro e V3 ⟨rfl, hb3⟩
        clear A1_0 A1_1 zA1 D1_0 D1_1 zD1 Z1_0 Z1_1 Z1_f0 Z1_f1 zZ1 S1_0 S1_1 zS1
        have B3 : Hid (Below w.heap.size w V3) := by first | exact Lib.hid ((B2.out).trans (hb3.mono (by have := B2.out.size; first | assumption | (simp <;> omega) | (simp; done)))) | exact Lib.hid (((B2.out).alloc (B2.out.size) _).trans (hb3.mono (by have := B2.out.size; first | assumption | (simp <;> omega) | (simp; done)))) | exact Lib.hid ((((B2.out).alloc (B2.out.size) _).alloc (by have := B2.out.size; simp <;> omega) _).trans (hb3.mono (by have := B2.out.size; first | assumption | (simp <;> omega) | (simp; done)))) | exact Lib.hid (((((B2.out).alloc (B2.out.size) _).alloc (by have := B2.out.size; simp <;> omega) _).alloc (by have := B2.out.size; simp <;> omega) _).trans (hb3.mono (by have := B2.out.size; first | assumption | (simp <;> omega) | (simp; done))))
        first | replace A1 := Lib.hid (row_call hb3 A1.out) | replace A1 := Lib.hid (row_call hb3 (row_alloc A1.out _)) | replace A1 := Lib.hid (row_call hb3 (row_alloc (row_alloc A1.out _) _)) | replace A1 := Lib.hid (row_call hb3 (row_alloc (row_alloc (row_alloc A1.out _) _) _))
        first | replace D1 := Lib.hid (row_call hb3 D1.out) | replace D1 := Lib.hid (row_call hb3 (row_alloc D1.out _)) | replace D1 := Lib.hid (row_call hb3 (row_alloc (row_alloc D1.out _) _)) | replace D1 := Lib.hid (row_call hb3 (row_alloc (row_alloc (row_alloc D1.out _) _) _))
        first | replace Z1 := Lib.hid (row_call hb3 Z1.out) | replace Z1 := Lib.hid (row_call hb3 (row_alloc Z1.out _)) | replace Z1 := Lib.hid (row_call hb3 (row_alloc (row_alloc Z1.out _) _)) | replace Z1 := Lib.hid (row_call hb3 (row_alloc (row_alloc (row_alloc Z1.out _) _) _))
        first | replace S1 := Lib.hid (row_call hb3 S1.out) | replace S1 := Lib.hid (row_call hb3 (row_alloc S1.out _)) | replace S1 := Lib.hid (row_call hb3 (row_alloc (row_alloc S1.out _) _)) | replace S1 := Lib.hid (row_call hb3 (row_alloc (row_alloc (row_alloc S1.out _) _) _))
        clear hb3
        have A1_0 : V3.cell? ⟨w.heap.size, 0, none⟩ = some (.int .i64 s) := cell_of_row _ _ _ _ _ _ A1.out
        have A1_1 : V3.cell? ⟨w.heap.size, 1, none⟩ = some (.int .i64 n) := cell_of_row _ _ _ _ _ _ A1.out
        have D1_0 : V3.cell? ⟨w.heap.size + 1, 0, none⟩ = some (.int .i64 d) := cell_of_row _ _ _ _ _ _ D1.out
        have D1_1 : V3.cell? ⟨w.heap.size + 1, 1, none⟩ = some (.int .i64 m) := cell_of_row _ _ _ _ _ _ D1.out
        have Z1_0 : V3.cell? ⟨w.heap.size + 1 + 1, 0, none⟩ = some (.int .i64 0) := cell_of_row _ _ _ _ _ _ Z1.out
        have Z1_1 : V3.cell? ⟨w.heap.size + 1 + 1, 1, none⟩ = some (.int .i64 0) := cell_of_row _ _ _ _ _ _ Z1.out
        have Z1_f0 : V3.frozen? ⟨w.heap.size + 1 + 1, 0, none⟩ = false := by simp [World.frozen?, Z1.out]
        have Z1_f1 : V3.frozen? ⟨w.heap.size + 1 + 1, 1, none⟩ = false := by simp [World.frozen?, Z1.out]
        have S1_0 : V3.cell? ⟨gS1, 0, none⟩ = some (.int .u64 (zh T)) := cell_of_row _ _ _ _ _ _ S1.out
        have S1_1 : V3.cell? ⟨gS1, 1, none⟩ = some (.int .u64 (zl T)) := cell_of_row _ _ _ _ _ _ S1.out
        have zA1 := lt_of_heap A1.out
        have zD1 := lt_of_heap D1.out
        have zZ1 := lt_of_heap Z1.out
        have zS1 := lt_of_heap S1.out
        go_simp
        go_wp2
        refine shut_ret (v := .tuple #[.agg #[.int .i64 S, .int .i64 N], .int .i64 E]) (by simp [results, Tryd.results36, go_sem, zZ1, Z1_0, Z1_1]) rfl ⟨rfl, ?_⟩
        exact keep2 B3.out (by omega) _ _
  · obtain ⟨hne, t1, t2, t3⟩ := fs_ad (s := s) (n := n) (d := d) (m := m) (fun a b => hc ⟨a, b⟩)
    rw [t1, t2, t3]
    have H3 := Lib.hid (rFirst_any (ckI s n) (ckD d m))
    clear t1 t2 t3 hc bs bn bd bm
    generalize fsI (ckI s n) (ckD d m) = E at *
    generalize ckI s n = c1 at *
    generalize ckD d m = c2 at *
    have f1 : (E != 0) = true := by rw [bne_iff_ne]; exact hne
    go_enter Tryd.func36, Tryd.ntmps36
    refine wp_shut ?_
    go_wp2_with fail
    
    obtain ⟨W0, hW0⟩ : ∃ W0, W0 = (((w.alloc (Obj.cells #[Value.int .i64 s, Value.int .i64 n] 75)).alloc (Obj.cells #[Value.int .i64 d, Value.int .i64 m] 42)).alloc (Obj.cells #[Value.int .i64 0, Value.int .i64 0] 75)) := ⟨_, rfl⟩
    have A1 := Lib.hid (row_at (k' := w.heap.size) (by simp) (row_by hW0 (row_alloc (row_alloc (heap_alloc_new _ _) _) _)))
    have D1 := Lib.hid (row_at (k' := w.heap.size + 1) (by simp) (row_by hW0 (row_alloc (heap_alloc_new _ _) _)))
    have Z1 := Lib.hid (row_at (k' := w.heap.size + 1 + 1) (by simp) (row_by hW0 (heap_alloc_new _ _)))
    have HB0 := Lib.hid (below_by hW0 ((((Below.refl w.heap.size w).alloc (by simp <;> omega) _).alloc (by simp <;> omega) _).alloc (by simp <;> omega) _))
    have HW0 := Lib.hid hW0
    clear hW0
    have A1_0 : W0.cell? ⟨w.heap.size, 0, none⟩ = some (.int .i64 s) := cell_of_row _ _ _ _ _ _ A1.out
    have A1_1 : W0.cell? ⟨w.heap.size, 1, none⟩ = some (.int .i64 n) := cell_of_row _ _ _ _ _ _ A1.out
    have zA1 := lt_of_heap A1.out
    have D1_0 : W0.cell? ⟨w.heap.size + 1, 0, none⟩ = some (.int .i64 d) := cell_of_row _ _ _ _ _ _ D1.out
    have D1_1 : W0.cell? ⟨w.heap.size + 1, 1, none⟩ = some (.int .i64 m) := cell_of_row _ _ _ _ _ _ D1.out
    have zD1 := lt_of_heap D1.out
    have Z1_0 : W0.cell? ⟨w.heap.size + 1 + 1, 0, none⟩ = some (.int .i64 0) := cell_of_row _ _ _ _ _ _ Z1.out
    have Z1_1 : W0.cell? ⟨w.heap.size + 1 + 1, 1, none⟩ = some (.int .i64 0) := cell_of_row _ _ _ _ _ _ Z1.out
    have Z1_f0 : W0.frozen? ⟨w.heap.size + 1 + 1, 0, none⟩ = false := (by simp [World.frozen?, Z1.out])
    have Z1_f1 : W0.frozen? ⟨w.heap.size + 1 + 1, 1, none⟩ = false := (by simp [World.frozen?, Z1.out])
    have zZ1 := lt_of_heap Z1.out
    try rw [← HW0.out]
    go_cut [6] (fun s6 wx => s6 = .int .i64 E ∧ Below W0.heap.size W0 wx)
    case first =>
      go_region_held3 (fun w' => Below W0.heap.size W0 w' ∧ w'.cell? ⟨w.heap.size, 0, none⟩ = some (.int .i64 s) ∧ w'.cell? ⟨w.heap.size, 1, none⟩ = some (.int .i64 n) ∧ w'.cell? ⟨w.heap.size + 1, 0, none⟩ = some (.int .i64 d) ∧ w'.cell? ⟨w.heap.size + 1, 1, none⟩ = some (.int .i64 m))
    (first
      | ((try go_split_ands); refine ⟨(Below.refl _ _).drew, ?_, ?_, ?_, ?_⟩ <;> first | assumption | (rw [World.cell?_drew]; assumption))
      | ((try go_split_ands); refine ⟨keepS (W0 := W0) ?_ hb1, cellS (W0 := W0) ?_ hb1 ?_ ?_, cellS (W0 := W0) ?_ hb1 ?_ ?_, cellS (W0 := W0) ?_ hb1 ?_ ?_, cellS (W0 := W0) ?_ hb1 ?_ ?_⟩ <;> first | assumption | omega)
      | ((try go_split_ands); refine ⟨keepA (W0 := W0) ?_ _, cellA (W0 := W0) ?_ _ ?_ ?_, cellA (W0 := W0) ?_ _ ?_ ?_, cellA (W0 := W0) ?_ _ ?_ ?_, cellA (W0 := W0) ?_ _ ?_ ?_⟩ <;> first | assumption | omega)
      | ((try go_split_ands); refine ⟨keepAd (W0 := W0) ?_ _, cellAd (W0 := W0) ?_ _ ?_ ?_, cellAd (W0 := W0) ?_ _ ?_ ?_, cellAd (W0 := W0) ?_ _ ?_ ?_, cellAd (W0 := W0) ?_ _ ?_ ?_⟩ <;> first | assumption | omega | exact Below.refl _ _)
      | ((try go_split_ands); (with_reducible refine ⟨keep3 (W0 := W0) ?_ ?_ _ _ _, cell3 (W0 := W0) ?_ _ _ _ ?_ ?_, cell3 (W0 := W0) ?_ _ _ _ ?_ ?_, cell3 (W0 := W0) ?_ _ _ _ ?_ ?_, cell3 (W0 := W0) ?_ _ _ _ ?_ ?_⟩) <;> first | assumption | omega | exact Nat.le_refl _)
      | ((try go_split_ands); refine ⟨keep2 (W0 := W0) ?_ ?_ _ _, cell2 (W0 := W0) ?_ _ _ ?_ ?_, cell2 (W0 := W0) ?_ _ _ ?_ ?_, cell2 (W0 := W0) ?_ _ _ ?_ ?_, cell2 (W0 := W0) ?_ _ _ ?_ ?_⟩ <;> first | assumption | omega | exact Nat.le_refl _)
      | ((try go_split_ands); refine ⟨keepZ (W0 := W0) ?_ ?_ _, cellZ (W0 := W0) ?_ _ ?_ ?_, cellZ (W0 := W0) ?_ _ ?_ ?_, cellZ (W0 := W0) ?_ _ ?_ ?_, cellZ (W0 := W0) ?_ _ ?_ ?_⟩ <;> first | assumption | omega | exact Nat.le_refl _ | exact ⟨_, by assumption⟩))
    (first | (go_at_call 60; (with_reducible refine (H1.out _).mono ?_); rintro e w1 ⟨rfl, hb1⟩; (try go_split_ands); have hge : W0.heap.size ≤ w1.heap.size := (by first | (refine (keepS (W0 := W0) ?_ hb1).size; assumption) | exact (hb1.size : W0.heap.size ≤ w1.heap.size)); (try have hrow := row_call hb1 hrow); (try have hrow := row_new hb1); (try have hrow := row_newd hb1); have hl1 := lt_below hb1; obtain ⟨hc1, hf1⟩ := bcell hb1; (try (have hrc := row_cellA hrow; clear hc1 hf1)); (try have hrf := row_frozA hrow)) | (go_at_call 35; (with_reducible refine (H2.out _).mono ?_); rintro e w1 ⟨rfl, hb1⟩; (try go_split_ands); have hge : W0.heap.size ≤ w1.heap.size := (by first | (refine (keepS (W0 := W0) ?_ hb1).size; assumption) | exact (hb1.size : W0.heap.size ≤ w1.heap.size)); (try have hrow := row_call hb1 hrow); (try have hrow := row_new hb1); (try have hrow := row_newd hb1); have hl1 := lt_below hb1; obtain ⟨hc1, hf1⟩ := bcell hb1; (try (have hrc := row_cellA hrow; clear hc1 hf1)); (try have hrf := row_frozA hrow)) | (go_at_call 34; refine (H3.out _ _ (by simp [go_sem]) (by simp [go_sem])).mono ?_; rintro e w1 ⟨rfl, hb1⟩; (try go_split_ands); have hge : W0.heap.size ≤ w1.heap.size := (by first | (refine (keepS (W0 := W0) ?_ hb1).size; assumption) | exact (hb1.size : W0.heap.size ≤ w1.heap.size)); (try have hrow := row_call hb1 hrow); (try have hrow := row_new hb1); (try have hrow := row_newd hb1); have hl1 := lt_below hb1; obtain ⟨hc1, hf1⟩ := bcell hb1; (try (have hrc := row_cellA hrow; clear hc1 hf1)); (try have hrf := row_frozA hrow)))
      all_goals (try go_split_ands)
      all_goals (go_wp2_with fail; go_meet; refine ⟨rfl, ?_⟩)
      all_goals first | (with_reducible assumption) | (with_reducible exact heap_alloc_new _ _) | (with_reducible exact row_set3 (by assumption) _ _ _) | assumption | exact heap_alloc_new _ _ | exact row_set (by assumption) _ _
    case rest =>
      obtain ⟨rfl, hB⟩ := hcut
      obtain ⟨V1, rfl⟩ : ∃ V, V = wc := ⟨_, rfl⟩
      clear A1_0 A1_1 zA1 D1_0 D1_1 zD1 Z1_0 Z1_1 Z1_f0 Z1_f1 zZ1
      replace A1 := Lib.hid (row_call hB A1.out)
      replace D1 := Lib.hid (row_call hB D1.out)
      replace Z1 := Lib.hid (row_call hB Z1.out)
      have B1 := Lib.hid (HB0.out.trans (hB.mono HB0.out.size))
      clear hB
      have A1_0 : V1.cell? ⟨w.heap.size, 0, none⟩ = some (.int .i64 s) := cell_of_row _ _ _ _ _ _ A1.out
      have A1_1 : V1.cell? ⟨w.heap.size, 1, none⟩ = some (.int .i64 n) := cell_of_row _ _ _ _ _ _ A1.out
      have zA1 := lt_of_heap A1.out
      have D1_0 : V1.cell? ⟨w.heap.size + 1, 0, none⟩ = some (.int .i64 d) := cell_of_row _ _ _ _ _ _ D1.out
      have D1_1 : V1.cell? ⟨w.heap.size + 1, 1, none⟩ = some (.int .i64 m) := cell_of_row _ _ _ _ _ _ D1.out
      have zD1 := lt_of_heap D1.out
      have Z1_0 : V1.cell? ⟨w.heap.size + 1 + 1, 0, none⟩ = some (.int .i64 0) := cell_of_row _ _ _ _ _ _ Z1.out
      have Z1_1 : V1.cell? ⟨w.heap.size + 1 + 1, 1, none⟩ = some (.int .i64 0) := cell_of_row _ _ _ _ _ _ Z1.out
      have Z1_f0 : V1.frozen? ⟨w.heap.size + 1 + 1, 0, none⟩ = false := (by simp [World.frozen?, Z1.out])
      have Z1_f1 : V1.frozen? ⟨w.heap.size + 1 + 1, 1, none⟩ = false := (by simp [World.frozen?, Z1.out])
      have zZ1 := lt_of_heap Z1.out
      go_wp2
      refine shut_ret (v := .tuple #[.agg #[.int .i64 0, .int .i64 0], .int .i64 E]) (by simp [results, Tryd.results36, go_sem, zZ1, Z1_0, Z1_1]) rfl ⟨rfl, ?_⟩
      exact keep2 B1.out (by omega) _ _
end Go.Proofs.YtaoljjhhbmblhaaDoor
namespace Go.Proofs.YtaoljjhhbmblhaaDoor
set_option linter.unusedVariables false
set_option linter.unusedSimpArgs false
open Go.ChangeShapes Go.WideShapes Go.ChangeAt Go.RowKit
@[irreducible] def sbS (s n d m : Int) : Int := if fsI (ckI s n) (ckI d m) = 0 then (nanos s n - nanos d m) / 1000000000 else 0
@[irreducible] def sbN (s n d m : Int) : Int := if fsI (ckI s n) (ckI d m) = 0 then (nanos s n - nanos d m) % 1000000000 else 0
theorem sb_ok {s n d m : Int} (h : fsI (ckI s n) (ckI d m) = 0) : sbS s n d m = (nanos s n - nanos d m) / 1000000000 ∧ sbN s n d m = (nanos s n - nanos d m) % 1000000000 := by
  unfold sbS sbN; exact ⟨if_pos h, if_pos h⟩
theorem sb_no {s n d m : Int} (h : fsI (ckI s n) (ckI d m) ≠ 0) : sbS s n d m = 0 ∧ sbN s n d m = 0 := by
  unfold sbS sbN; exact ⟨if_neg h, if_neg h⟩
theorem fs_zero {x y : Int} (h : fsI x y = 0) : x = 0 ∧ y = 0 := by
  unfold fsI at h
  by_cases h1 : x = 0
  · rw [if_pos h1] at h; exact ⟨h1, h⟩
  · rw [if_neg h1] at h
    by_cases h2 : y = 0
    · rw [if_pos h2] at h; exact absurd h h1
    · rw [if_neg h2] at h
      split at h
      · exact absurd h h2
      · exact absurd h h1
theorem sb_in {s n d m : Int} (h : fsI (ckI s n) (ckI d m) = 0) : -1099511627776 ≤ (nanos s n - nanos d m) / 1000000000 ∧ (nanos s n - nanos d m) / 1000000000 ≤ 1099511627776 := by
  obtain ⟨h1, h2⟩ := fs_zero h
  obtain ⟨o2, o3, o4⟩ := of_ckI h1
  obtain ⟨p2, p3, p4⟩ := of_ckI h2
  have o5 := of_wmB o2
  have p5 := of_wmB p2
  unfold nanos
  omega
set_option maxHeartbeats 3200000 in
set_option maxRecDepth 100000 in
theorem riSub_any (s n d m : Int) (bs : in64 s) (bn : in64 n) (bd : in64 d) (bm : in64 m) (w : World) :
    Calls Tryd.prog 40 #[.agg #[.int .i64 s, .int .i64 n], .agg #[.int .i64 d, .int .i64 m]] w fun e w' => e = .returned (.tuple #[.agg #[.int .i64 (sbS s n d m), .int .i64 (sbN s n d m)], .int .i64 (fsI (ckI s n) (ckI d m))]) ∧ Below w.heap.size w w' := by
  have H1 := Lib.hid (rCheck_any s n)
  have H2 := Lib.hid (rCheck_any d m)
  have X3 := rFirst_any (ckI s n) (ckI d m)
  by_cases hc : fsI (ckI s n) (ckI d m) = 0
  · obtain ⟨t1, t2⟩ := sb_ok hc
    obtain ⟨r1, r2⟩ := sb_in hc
    have hq : in64 ((nanos s n - nanos d m) / 1000000000) := by unfold in64; omega
    rw [t1, t2, hc]
    rw [hc] at X3
    have H3 := Lib.hid X3
    have H4 := Lib.hid (rWide_any s n bs bn)
    have H5 := Lib.hid (rWide_any d m bd bm)
    have H6 := Lib.hid (rSub_any (nanos s n) (nanos d m))
    have X7 := rParts_any (nanos s n - nanos d m) (sum_in bs bn bd bm).2
    rw [iV_of hq, iE_of hq, show ((0 : Int) == 0) = true from rfl] at X7
    have H7 := Lib.hid X7
    clear X3 X7 t1 t2 hc bs bn bd bm r1 r2 hq
    generalize bb (nanos s n) (nanos d m) = c at *
    generalize nanos s n - nanos d m = T at *
    generalize nanos s n = P at *
    generalize nanos d m = Q at *
    generalize T / 1000000000 = S at *
    generalize T % 1000000000 = N at *
    generalize ckI s n = c1 at *
    generalize ckI d m = c2 at *
    go_enter Tryd.func40, Tryd.ntmps40
    refine wp_shut ?_
    go_wp2_with fail
    
    obtain ⟨W0, hW0⟩ : ∃ W0, W0 = (((w.alloc (Obj.cells #[Value.int .i64 s, Value.int .i64 n] 75)).alloc (Obj.cells #[Value.int .i64 d, Value.int .i64 m] 75)).alloc (Obj.cells #[Value.int .i64 0, Value.int .i64 0] 42)) := ⟨_, rfl⟩
    have A1 := Lib.hid (row_at (k' := w.heap.size) (by simp) (row_by hW0 (row_alloc (row_alloc (heap_alloc_new _ _) _) _)))
    have D1 := Lib.hid (row_at (k' := w.heap.size + 1) (by simp) (row_by hW0 (row_alloc (heap_alloc_new _ _) _)))
    have Z1 := Lib.hid (row_at (k' := w.heap.size + 1 + 1) (by simp) (row_by hW0 (heap_alloc_new _ _)))
    have HB0 := Lib.hid (below_by hW0 ((((Below.refl w.heap.size w).alloc (by simp <;> omega) _).alloc (by simp <;> omega) _).alloc (by simp <;> omega) _))
    have HW0 := Lib.hid hW0
    clear hW0
    have A1_0 : W0.cell? ⟨w.heap.size, 0, none⟩ = some (.int .i64 s) := cell_of_row _ _ _ _ _ _ A1.out
    have A1_1 : W0.cell? ⟨w.heap.size, 1, none⟩ = some (.int .i64 n) := cell_of_row _ _ _ _ _ _ A1.out
    have zA1 := lt_of_heap A1.out
    have D1_0 : W0.cell? ⟨w.heap.size + 1, 0, none⟩ = some (.int .i64 d) := cell_of_row _ _ _ _ _ _ D1.out
    have D1_1 : W0.cell? ⟨w.heap.size + 1, 1, none⟩ = some (.int .i64 m) := cell_of_row _ _ _ _ _ _ D1.out
    have zD1 := lt_of_heap D1.out
    have Z1_0 : W0.cell? ⟨w.heap.size + 1 + 1, 0, none⟩ = some (.int .i64 0) := cell_of_row _ _ _ _ _ _ Z1.out
    have Z1_1 : W0.cell? ⟨w.heap.size + 1 + 1, 1, none⟩ = some (.int .i64 0) := cell_of_row _ _ _ _ _ _ Z1.out
    have Z1_f0 : W0.frozen? ⟨w.heap.size + 1 + 1, 0, none⟩ = false := (by simp [World.frozen?, Z1.out])
    have Z1_f1 : W0.frozen? ⟨w.heap.size + 1 + 1, 1, none⟩ = false := (by simp [World.frozen?, Z1.out])
    have zZ1 := lt_of_heap Z1.out
    try rw [← HW0.out]
    go_cut [6] (fun s6 wx => s6 = .int .i64 0 ∧ Below W0.heap.size W0 wx)
    case first =>
      go_region_held3 (fun w' => Below W0.heap.size W0 w' ∧ w'.cell? ⟨w.heap.size, 0, none⟩ = some (.int .i64 s) ∧ w'.cell? ⟨w.heap.size, 1, none⟩ = some (.int .i64 n) ∧ w'.cell? ⟨w.heap.size + 1, 0, none⟩ = some (.int .i64 d) ∧ w'.cell? ⟨w.heap.size + 1, 1, none⟩ = some (.int .i64 m))
    (first
      | ((try go_split_ands); refine ⟨(Below.refl _ _).drew, ?_, ?_, ?_, ?_⟩ <;> first | assumption | (rw [World.cell?_drew]; assumption))
      | ((try go_split_ands); refine ⟨keepS (W0 := W0) ?_ hb1, cellS (W0 := W0) ?_ hb1 ?_ ?_, cellS (W0 := W0) ?_ hb1 ?_ ?_, cellS (W0 := W0) ?_ hb1 ?_ ?_, cellS (W0 := W0) ?_ hb1 ?_ ?_⟩ <;> first | assumption | omega)
      | ((try go_split_ands); refine ⟨keepA (W0 := W0) ?_ _, cellA (W0 := W0) ?_ _ ?_ ?_, cellA (W0 := W0) ?_ _ ?_ ?_, cellA (W0 := W0) ?_ _ ?_ ?_, cellA (W0 := W0) ?_ _ ?_ ?_⟩ <;> first | assumption | omega)
      | ((try go_split_ands); refine ⟨keepAd (W0 := W0) ?_ _, cellAd (W0 := W0) ?_ _ ?_ ?_, cellAd (W0 := W0) ?_ _ ?_ ?_, cellAd (W0 := W0) ?_ _ ?_ ?_, cellAd (W0 := W0) ?_ _ ?_ ?_⟩ <;> first | assumption | omega | exact Below.refl _ _)
      | ((try go_split_ands); (with_reducible refine ⟨keep3 (W0 := W0) ?_ ?_ _ _ _, cell3 (W0 := W0) ?_ _ _ _ ?_ ?_, cell3 (W0 := W0) ?_ _ _ _ ?_ ?_, cell3 (W0 := W0) ?_ _ _ _ ?_ ?_, cell3 (W0 := W0) ?_ _ _ _ ?_ ?_⟩) <;> first | assumption | omega | exact Nat.le_refl _)
      | ((try go_split_ands); refine ⟨keep2 (W0 := W0) ?_ ?_ _ _, cell2 (W0 := W0) ?_ _ _ ?_ ?_, cell2 (W0 := W0) ?_ _ _ ?_ ?_, cell2 (W0 := W0) ?_ _ _ ?_ ?_, cell2 (W0 := W0) ?_ _ _ ?_ ?_⟩ <;> first | assumption | omega | exact Nat.le_refl _)
      | ((try go_split_ands); refine ⟨keepZ (W0 := W0) ?_ ?_ _, cellZ (W0 := W0) ?_ _ ?_ ?_, cellZ (W0 := W0) ?_ _ ?_ ?_, cellZ (W0 := W0) ?_ _ ?_ ?_, cellZ (W0 := W0) ?_ _ ?_ ?_⟩ <;> first | assumption | omega | exact Nat.le_refl _ | exact ⟨_, by assumption⟩))
    (first | (go_at_call 60; (with_reducible refine (H1.out _).mono ?_); rintro e w1 ⟨rfl, hb1⟩; (try go_split_ands); have hge : W0.heap.size ≤ w1.heap.size := (by first | (refine (keepS (W0 := W0) ?_ hb1).size; assumption) | exact (hb1.size : W0.heap.size ≤ w1.heap.size)); (try have hrow := row_call hb1 hrow); (try have hrow := row_new hb1); (try have hrow := row_newd hb1); have hl1 := lt_below hb1; obtain ⟨hc1, hf1⟩ := bcell hb1; (try (have hrc := row_cellA hrow; clear hc1 hf1)); (try have hrf := row_frozA hrow)) | (go_at_call 60; (with_reducible refine (H2.out _).mono ?_); rintro e w1 ⟨rfl, hb1⟩; (try go_split_ands); have hge : W0.heap.size ≤ w1.heap.size := (by first | (refine (keepS (W0 := W0) ?_ hb1).size; assumption) | exact (hb1.size : W0.heap.size ≤ w1.heap.size)); (try have hrow := row_call hb1 hrow); (try have hrow := row_new hb1); (try have hrow := row_newd hb1); have hl1 := lt_below hb1; obtain ⟨hc1, hf1⟩ := bcell hb1; (try (have hrc := row_cellA hrow; clear hc1 hf1)); (try have hrf := row_frozA hrow)) | (go_at_call 34; refine (H3.out _ _ (by simp [go_sem]) (by simp [go_sem])).mono ?_; rintro e w1 ⟨rfl, hb1⟩; (try go_split_ands); have hge : W0.heap.size ≤ w1.heap.size := (by first | (refine (keepS (W0 := W0) ?_ hb1).size; assumption) | exact (hb1.size : W0.heap.size ≤ w1.heap.size)); (try have hrow := row_call hb1 hrow); (try have hrow := row_new hb1); (try have hrow := row_newd hb1); have hl1 := lt_below hb1; obtain ⟨hc1, hf1⟩ := bcell hb1; (try (have hrc := row_cellA hrow; clear hc1 hf1)); (try have hrf := row_frozA hrow)))
      all_goals (try go_split_ands)
      all_goals (go_wp2_with fail; go_meet; refine ⟨rfl, ?_⟩)
      all_goals first | (with_reducible assumption) | (with_reducible exact heap_alloc_new _ _) | (with_reducible exact row_set3 (by assumption) _ _ _) | assumption | exact heap_alloc_new _ _ | exact row_set (by assumption) _ _
    case rest =>
      obtain ⟨rfl, hB⟩ := hcut
      obtain ⟨V1, rfl⟩ : ∃ V, V = wc := ⟨_, rfl⟩
      clear A1_0 A1_1 zA1 D1_0 D1_1 zD1 Z1_0 Z1_1 Z1_f0 Z1_f1 zZ1
      replace A1 := Lib.hid (row_call hB A1.out)
      replace D1 := Lib.hid (row_call hB D1.out)
      replace Z1 := Lib.hid (row_call hB Z1.out)
      have B1 := Lib.hid (HB0.out.trans (hB.mono HB0.out.size))
      clear hB
      have A1_0 : V1.cell? ⟨w.heap.size, 0, none⟩ = some (.int .i64 s) := cell_of_row _ _ _ _ _ _ A1.out
      have A1_1 : V1.cell? ⟨w.heap.size, 1, none⟩ = some (.int .i64 n) := cell_of_row _ _ _ _ _ _ A1.out
      have zA1 := lt_of_heap A1.out
      have D1_0 : V1.cell? ⟨w.heap.size + 1, 0, none⟩ = some (.int .i64 d) := cell_of_row _ _ _ _ _ _ D1.out
      have D1_1 : V1.cell? ⟨w.heap.size + 1, 1, none⟩ = some (.int .i64 m) := cell_of_row _ _ _ _ _ _ D1.out
      have zD1 := lt_of_heap D1.out
      have Z1_0 : V1.cell? ⟨w.heap.size + 1 + 1, 0, none⟩ = some (.int .i64 0) := cell_of_row _ _ _ _ _ _ Z1.out
      have Z1_1 : V1.cell? ⟨w.heap.size + 1 + 1, 1, none⟩ = some (.int .i64 0) := cell_of_row _ _ _ _ _ _ Z1.out
      have Z1_f0 : V1.frozen? ⟨w.heap.size + 1 + 1, 0, none⟩ = false := (by simp [World.frozen?, Z1.out])
      have Z1_f1 : V1.frozen? ⟨w.heap.size + 1 + 1, 1, none⟩ = false := (by simp [World.frozen?, Z1.out])
      have zZ1 := lt_of_heap Z1.out
      go_wp2_with fail
      clear A1_0 A1_1 zA1 D1_0 D1_1 zD1 Z1_0 Z1_1 Z1_f0 Z1_f1 zZ1
      obtain ⟨W0, hW0⟩ : ∃ W0, W0 = V1 := ⟨_, rfl⟩
      replace A1 := Lib.hid (row_by hW0 A1.out)
      replace D1 := Lib.hid (row_by hW0 D1.out)
      replace Z1 := Lib.hid (row_by hW0 Z1.out)
      have HB0 := Lib.hid (below_by hW0 (B1.out))
      have HW0 := Lib.hid hW0
      clear hW0
      have A1_0 : W0.cell? ⟨w.heap.size, 0, none⟩ = some (.int .i64 s) := cell_of_row _ _ _ _ _ _ A1.out
      have A1_1 : W0.cell? ⟨w.heap.size, 1, none⟩ = some (.int .i64 n) := cell_of_row _ _ _ _ _ _ A1.out
      have zA1 := lt_of_heap A1.out
      have D1_0 : W0.cell? ⟨w.heap.size + 1, 0, none⟩ = some (.int .i64 d) := cell_of_row _ _ _ _ _ _ D1.out
      have D1_1 : W0.cell? ⟨w.heap.size + 1, 1, none⟩ = some (.int .i64 m) := cell_of_row _ _ _ _ _ _ D1.out
      have zD1 := lt_of_heap D1.out
      have Z1_0 : W0.cell? ⟨w.heap.size + 1 + 1, 0, none⟩ = some (.int .i64 0) := cell_of_row _ _ _ _ _ _ Z1.out
      have Z1_1 : W0.cell? ⟨w.heap.size + 1 + 1, 1, none⟩ = some (.int .i64 0) := cell_of_row _ _ _ _ _ _ Z1.out
      have Z1_f0 : W0.frozen? ⟨w.heap.size + 1 + 1, 0, none⟩ = false := (by simp [World.frozen?, Z1.out])
      have Z1_f1 : W0.frozen? ⟨w.heap.size + 1 + 1, 1, none⟩ = false := (by simp [World.frozen?, Z1.out])
      have zZ1 := lt_of_heap Z1.out
      try rw [← HW0.out]
      go_cut [7, 8] (fun s7 s8 wx => ∃ gS1 : Nat, s7 = .pointer (some ⟨gS1, 0, none⟩) ∧ s8 = .bool c ∧ wx.heap[gS1]? = some (.cells #[.int .u64 (zh T), .int .u64 (zl T)] 103 (0, 0)) ∧ Below W0.heap.size W0 wx)
      case first =>
        go_region_held3 (fun w' => Below W0.heap.size W0 w' ∧ w'.cell? ⟨w.heap.size, 0, none⟩ = some (.int .i64 s) ∧ w'.cell? ⟨w.heap.size, 1, none⟩ = some (.int .i64 n) ∧ w'.cell? ⟨w.heap.size + 1, 0, none⟩ = some (.int .i64 d) ∧ w'.cell? ⟨w.heap.size + 1, 1, none⟩ = some (.int .i64 m))
    (first
      | ((try go_split_ands); refine ⟨(Below.refl _ _).drew, ?_, ?_, ?_, ?_⟩ <;> first | assumption | (rw [World.cell?_drew]; assumption))
      | ((try go_split_ands); refine ⟨keepS (W0 := W0) ?_ hb1, cellS (W0 := W0) ?_ hb1 ?_ ?_, cellS (W0 := W0) ?_ hb1 ?_ ?_, cellS (W0 := W0) ?_ hb1 ?_ ?_, cellS (W0 := W0) ?_ hb1 ?_ ?_⟩ <;> first | assumption | omega)
      | ((try go_split_ands); refine ⟨keepA (W0 := W0) ?_ _, cellA (W0 := W0) ?_ _ ?_ ?_, cellA (W0 := W0) ?_ _ ?_ ?_, cellA (W0 := W0) ?_ _ ?_ ?_, cellA (W0 := W0) ?_ _ ?_ ?_⟩ <;> first | assumption | omega)
      | ((try go_split_ands); refine ⟨keepAd (W0 := W0) ?_ _, cellAd (W0 := W0) ?_ _ ?_ ?_, cellAd (W0 := W0) ?_ _ ?_ ?_, cellAd (W0 := W0) ?_ _ ?_ ?_, cellAd (W0 := W0) ?_ _ ?_ ?_⟩ <;> first | assumption | omega | exact Below.refl _ _)
      | ((try go_split_ands); (with_reducible refine ⟨keep3 (W0 := W0) ?_ ?_ _ _ _, cell3 (W0 := W0) ?_ _ _ _ ?_ ?_, cell3 (W0 := W0) ?_ _ _ _ ?_ ?_, cell3 (W0 := W0) ?_ _ _ _ ?_ ?_, cell3 (W0 := W0) ?_ _ _ _ ?_ ?_⟩) <;> first | assumption | omega | exact Nat.le_refl _)
      | ((try go_split_ands); refine ⟨keep2 (W0 := W0) ?_ ?_ _ _, cell2 (W0 := W0) ?_ _ _ ?_ ?_, cell2 (W0 := W0) ?_ _ _ ?_ ?_, cell2 (W0 := W0) ?_ _ _ ?_ ?_, cell2 (W0 := W0) ?_ _ _ ?_ ?_⟩ <;> first | assumption | omega | exact Nat.le_refl _)
      | ((try go_split_ands); refine ⟨keepZ (W0 := W0) ?_ ?_ _, cellZ (W0 := W0) ?_ _ ?_ ?_, cellZ (W0 := W0) ?_ _ ?_ ?_, cellZ (W0 := W0) ?_ _ ?_ ?_, cellZ (W0 := W0) ?_ _ ?_ ?_⟩ <;> first | assumption | omega | exact Nat.le_refl _ | exact ⟨_, by assumption⟩))
    (first | (go_at_call 62; (with_reducible refine (H4.out _).mono ?_); rintro e w1 ⟨rfl, hb1⟩; (try go_split_ands); have hge : W0.heap.size ≤ w1.heap.size := (by first | (refine (keepS (W0 := W0) ?_ hb1).size; assumption) | exact (hb1.size : W0.heap.size ≤ w1.heap.size)); (try have hrow := row_call hb1 hrow); (try have hrow := row_new hb1); (try have hrow := row_newd hb1); have hl1 := lt_below hb1; obtain ⟨hc1, hf1⟩ := bcell hb1; (try (have hrc := row_cellA hrow; clear hc1 hf1)); (try have hrf := row_frozA hrow)) | (go_at_call 62; (with_reducible refine (H5.out _).mono ?_); rintro e w1 ⟨rfl, hb1⟩; (try go_split_ands); have hge : W0.heap.size ≤ w1.heap.size := (by first | (refine (keepS (W0 := W0) ?_ hb1).size; assumption) | exact (hb1.size : W0.heap.size ≤ w1.heap.size)); (try have hrow := row_call hb1 hrow); (try have hrow := row_new hb1); (try have hrow := row_newd hb1); have hl1 := lt_below hb1; obtain ⟨hc1, hf1⟩ := bcell hb1; (try (have hrc := row_cellA hrow; clear hc1 hf1)); (try have hrf := row_frozA hrow)) | (go_at_call 66; (with_reducible refine (H6.out _).mono ?_); rintro e w1 ⟨rfl, hb1⟩; (try go_split_ands); have hge : W0.heap.size ≤ w1.heap.size := (by first | (refine (keepS (W0 := W0) ?_ hb1).size; assumption) | exact (hb1.size : W0.heap.size ≤ w1.heap.size)); (try have hrow := row_call hb1 hrow); (try have hrow := row_new hb1); (try have hrow := row_newd hb1); have hl1 := lt_below hb1; obtain ⟨hc1, hf1⟩ := bcell hb1; (try (have hrc := row_cellA hrow; clear hc1 hf1)); (try have hrf := row_frozA hrow)))
        all_goals (try go_split_ands)
        all_goals (go_wp2_with fail; go_meet; refine ⟨_, rfl, rfl, ?_, ?_⟩)
        all_goals first | (with_reducible assumption) | (with_reducible exact heap_alloc_new _ _) | (with_reducible exact row_set3 (by assumption) _ _ _) | assumption | exact heap_alloc_new _ _ | exact row_set (by assumption) _ _
      case rest =>
        obtain ⟨gS1, rfl, rfl, hS1, hB⟩ := hcut
        obtain ⟨V2, rfl⟩ : ∃ V, V = wc := ⟨_, rfl⟩
        have S1 := Lib.hid hS1
        clear hS1
        clear A1_0 A1_1 zA1 D1_0 D1_1 zD1 Z1_0 Z1_1 Z1_f0 Z1_f1 zZ1
        replace A1 := Lib.hid (row_call hB A1.out)
        replace D1 := Lib.hid (row_call hB D1.out)
        replace Z1 := Lib.hid (row_call hB Z1.out)
        have B2 := Lib.hid (HB0.out.trans (hB.mono HB0.out.size))
        clear hB
        have A1_0 : V2.cell? ⟨w.heap.size, 0, none⟩ = some (.int .i64 s) := cell_of_row _ _ _ _ _ _ A1.out
        have A1_1 : V2.cell? ⟨w.heap.size, 1, none⟩ = some (.int .i64 n) := cell_of_row _ _ _ _ _ _ A1.out
        have zA1 := lt_of_heap A1.out
        have D1_0 : V2.cell? ⟨w.heap.size + 1, 0, none⟩ = some (.int .i64 d) := cell_of_row _ _ _ _ _ _ D1.out
        have D1_1 : V2.cell? ⟨w.heap.size + 1, 1, none⟩ = some (.int .i64 m) := cell_of_row _ _ _ _ _ _ D1.out
        have zD1 := lt_of_heap D1.out
        have Z1_0 : V2.cell? ⟨w.heap.size + 1 + 1, 0, none⟩ = some (.int .i64 0) := cell_of_row _ _ _ _ _ _ Z1.out
        have Z1_1 : V2.cell? ⟨w.heap.size + 1 + 1, 1, none⟩ = some (.int .i64 0) := cell_of_row _ _ _ _ _ _ Z1.out
        have Z1_f0 : V2.frozen? ⟨w.heap.size + 1 + 1, 0, none⟩ = false := (by simp [World.frozen?, Z1.out])
        have Z1_f1 : V2.frozen? ⟨w.heap.size + 1 + 1, 1, none⟩ = false := (by simp [World.frozen?, Z1.out])
        have zZ1 := lt_of_heap Z1.out
        have S1_0 : V2.cell? ⟨gS1, 0, none⟩ = some (.int .u64 (zh T)) := cell_of_row _ _ _ _ _ _ S1.out
        have S1_1 : V2.cell? ⟨gS1, 1, none⟩ = some (.int .u64 (zl T)) := cell_of_row _ _ _ _ _ _ S1.out
        have zS1 := lt_of_heap S1.out
        go_wp2_with fail
        refine (H7.out _).mono ?_
        rintro e V3 ⟨rfl, hb3⟩
        clear A1_0 A1_1 zA1 D1_0 D1_1 zD1 Z1_0 Z1_1 Z1_f0 Z1_f1 zZ1 S1_0 S1_1 zS1
        have B3 : Hid (Below w.heap.size w V3) := by first | exact Lib.hid ((B2.out).trans (hb3.mono (by have := B2.out.size; first | assumption | (simp <;> omega) | (simp; done)))) | exact Lib.hid (((B2.out).alloc (B2.out.size) _).trans (hb3.mono (by have := B2.out.size; first | assumption | (simp <;> omega) | (simp; done)))) | exact Lib.hid ((((B2.out).alloc (B2.out.size) _).alloc (by have := B2.out.size; simp <;> omega) _).trans (hb3.mono (by have := B2.out.size; first | assumption | (simp <;> omega) | (simp; done)))) | exact Lib.hid (((((B2.out).alloc (B2.out.size) _).alloc (by have := B2.out.size; simp <;> omega) _).alloc (by have := B2.out.size; simp <;> omega) _).trans (hb3.mono (by have := B2.out.size; first | assumption | (simp <;> omega) | (simp; done))))
        first | replace A1 := Lib.hid (row_call hb3 A1.out) | replace A1 := Lib.hid (row_call hb3 (row_alloc A1.out _)) | replace A1 := Lib.hid (row_call hb3 (row_alloc (row_alloc A1.out _) _)) | replace A1 := Lib.hid (row_call hb3 (row_alloc (row_alloc (row_alloc A1.out _) _) _))
        first | replace D1 := Lib.hid (row_call hb3 D1.out) | replace D1 := Lib.hid (row_call hb3 (row_alloc D1.out _)) | replace D1 := Lib.hid (row_call hb3 (row_alloc (row_alloc D1.out _) _)) | replace D1 := Lib.hid (row_call hb3 (row_alloc (row_alloc (row_alloc D1.out _) _) _))
        first | replace Z1 := Lib.hid (row_call hb3 Z1.out) | replace Z1 := Lib.hid (row_call hb3 (row_alloc Z1.out _)) | replace Z1 := Lib.hid (row_call hb3 (row_alloc (row_alloc Z1.out _) _)) | replace Z1 := Lib.hid (row_call hb3 (row_alloc (row_alloc (row_alloc Z1.out _) _) _))
        first | replace S1 := Lib.hid (row_call hb3 S1.out) | replace S1 := Lib.hid (row_call hb3 (row_alloc S1.out _)) | replace S1 := Lib.hid (row_call hb3 (row_alloc (row_alloc S1.out _) _)) | replace S1 := Lib.hid (row_call hb3 (row_alloc (row_alloc (row_alloc S1.out _) _) _))
        clear hb3
        have A1_0 : V3.cell? ⟨w.heap.size, 0, none⟩ = some (.int .i64 s) := cell_of_row _ _ _ _ _ _ A1.out
        have A1_1 : V3.cell? ⟨w.heap.size, 1, none⟩ = some (.int .i64 n) := cell_of_row _ _ _ _ _ _ A1.out
        have D1_0 : V3.cell? ⟨w.heap.size + 1, 0, none⟩ = some (.int .i64 d) := cell_of_row _ _ _ _ _ _ D1.out
        have D1_1 : V3.cell? ⟨w.heap.size + 1, 1, none⟩ = some (.int .i64 m) := cell_of_row _ _ _ _ _ _ D1.out
        have Z1_0 : V3.cell? ⟨w.heap.size + 1 + 1, 0, none⟩ = some (.int .i64 0) := cell_of_row _ _ _ _ _ _ Z1.out
        have Z1_1 : V3.cell? ⟨w.heap.size + 1 + 1, 1, none⟩ = some (.int .i64 0) := cell_of_row _ _ _ _ _ _ Z1.out
        have Z1_f0 : V3.frozen? ⟨w.heap.size + 1 + 1, 0, none⟩ = false := by simp [World.frozen?, Z1.out]
        have Z1_f1 : V3.frozen? ⟨w.heap.size + 1 + 1, 1, none⟩ = false := by simp [World.frozen?, Z1.out]
        have S1_0 : V3.cell? ⟨gS1, 0, none⟩ = some (.int .u64 (zh T)) := cell_of_row _ _ _ _ _ _ S1.out
        have S1_1 : V3.cell? ⟨gS1, 1, none⟩ = some (.int .u64 (zl T)) := cell_of_row _ _ _ _ _ _ S1.out
        have zA1 := lt_of_heap A1.out
        have zD1 := lt_of_heap D1.out
        have zZ1 := lt_of_heap Z1.out
        have zS1 := lt_of_heap S1.out
        go_simp
        go_wp2
        refine shut_ret (v := .tuple #[.agg #[.int .i64 S, .int .i64 N], .int .i64 0]) (by simp [results, Tryd.results40, go_sem, zZ1, Z1_0, Z1_1]) rfl ⟨rfl, ?_⟩
        exact keep2 B3.out (by omega) _ _
  · obtain ⟨t1, t2⟩ := sb_no hc
    rw [t1, t2]
    have H3 := Lib.hid X3
    clear X3 t1 t2 bs bn bd bm
    generalize fsI (ckI s n) (ckI d m) = E at *
    generalize ckI s n = c1 at *
    generalize ckI d m = c2 at *
    have f1 : (E != 0) = true := by rw [bne_iff_ne]; exact hc
    go_enter Tryd.func40, Tryd.ntmps40
    refine wp_shut ?_
    go_wp2_with fail
    
    obtain ⟨W0, hW0⟩ : ∃ W0, W0 = (((w.alloc (Obj.cells #[Value.int .i64 s, Value.int .i64 n] 75)).alloc (Obj.cells #[Value.int .i64 d, Value.int .i64 m] 75)).alloc (Obj.cells #[Value.int .i64 0, Value.int .i64 0] 42)) := ⟨_, rfl⟩
    have A1 := Lib.hid (row_at (k' := w.heap.size) (by simp) (row_by hW0 (row_alloc (row_alloc (heap_alloc_new _ _) _) _)))
    have D1 := Lib.hid (row_at (k' := w.heap.size + 1) (by simp) (row_by hW0 (row_alloc (heap_alloc_new _ _) _)))
    have Z1 := Lib.hid (row_at (k' := w.heap.size + 1 + 1) (by simp) (row_by hW0 (heap_alloc_new _ _)))
    have HB0 := Lib.hid (below_by hW0 ((((Below.refl w.heap.size w).alloc (by simp <;> omega) _).alloc (by simp <;> omega) _).alloc (by simp <;> omega) _))
    have HW0 := Lib.hid hW0
    clear hW0
    have A1_0 : W0.cell? ⟨w.heap.size, 0, none⟩ = some (.int .i64 s) := cell_of_row _ _ _ _ _ _ A1.out
    have A1_1 : W0.cell? ⟨w.heap.size, 1, none⟩ = some (.int .i64 n) := cell_of_row _ _ _ _ _ _ A1.out
    have zA1 := lt_of_heap A1.out
    have D1_0 : W0.cell? ⟨w.heap.size + 1, 0, none⟩ = some (.int .i64 d) := cell_of_row _ _ _ _ _ _ D1.out
    have D1_1 : W0.cell? ⟨w.heap.size + 1, 1, none⟩ = some (.int .i64 m) := cell_of_row _ _ _ _ _ _ D1.out
    have zD1 := lt_of_heap D1.out
    have Z1_0 : W0.cell? ⟨w.heap.size + 1 + 1, 0, none⟩ = some (.int .i64 0) := cell_of_row _ _ _ _ _ _ Z1.out
    have Z1_1 : W0.cell? ⟨w.heap.size + 1 + 1, 1, none⟩ = some (.int .i64 0) := cell_of_row _ _ _ _ _ _ Z1.out
    have Z1_f0 : W0.frozen? ⟨w.heap.size + 1 + 1, 0, none⟩ = false := (by simp [World.frozen?, Z1.out])
    have Z1_f1 : W0.frozen? ⟨w.heap.size + 1 + 1, 1, none⟩ = false := (by simp [World.frozen?, Z1.out])
    have zZ1 := lt_of_heap Z1.out
    try rw [← HW0.out]
    go_cut [6] (fun s6 wx => s6 = .int .i64 E ∧ Below W0.heap.size W0 wx)
    case first =>
      go_region_held3 (fun w' => Below W0.heap.size W0 w' ∧ w'.cell? ⟨w.heap.size, 0, none⟩ = some (.int .i64 s) ∧ w'.cell? ⟨w.heap.size, 1, none⟩ = some (.int .i64 n) ∧ w'.cell? ⟨w.heap.size + 1, 0, none⟩ = some (.int .i64 d) ∧ w'.cell? ⟨w.heap.size + 1, 1, none⟩ = some (.int .i64 m))
    (first
      | ((try go_split_ands); refine ⟨(Below.refl _ _).drew, ?_, ?_, ?_, ?_⟩ <;> first | assumption | (rw [World.cell?_drew]; assumption))
      | ((try go_split_ands); refine ⟨keepS (W0 := W0) ?_ hb1, cellS (W0 := W0) ?_ hb1 ?_ ?_, cellS (W0 := W0) ?_ hb1 ?_ ?_, cellS (W0 := W0) ?_ hb1 ?_ ?_, cellS (W0 := W0) ?_ hb1 ?_ ?_⟩ <;> first | assumption | omega)
      | ((try go_split_ands); refine ⟨keepA (W0 := W0) ?_ _, cellA (W0 := W0) ?_ _ ?_ ?_, cellA (W0 := W0) ?_ _ ?_ ?_, cellA (W0 := W0) ?_ _ ?_ ?_, cellA (W0 := W0) ?_ _ ?_ ?_⟩ <;> first | assumption | omega)
      | ((try go_split_ands); refine ⟨keepAd (W0 := W0) ?_ _, cellAd (W0 := W0) ?_ _ ?_ ?_, cellAd (W0 := W0) ?_ _ ?_ ?_, cellAd (W0 := W0) ?_ _ ?_ ?_, cellAd (W0 := W0) ?_ _ ?_ ?_⟩ <;> first | assumption | omega | exact Below.refl _ _)
      | ((try go_split_ands); (with_reducible refine ⟨keep3 (W0 := W0) ?_ ?_ _ _ _, cell3 (W0 := W0) ?_ _ _ _ ?_ ?_, cell3 (W0 := W0) ?_ _ _ _ ?_ ?_, cell3 (W0 := W0) ?_ _ _ _ ?_ ?_, cell3 (W0 := W0) ?_ _ _ _ ?_ ?_⟩) <;> first | assumption | omega | exact Nat.le_refl _)
      | ((try go_split_ands); refine ⟨keep2 (W0 := W0) ?_ ?_ _ _, cell2 (W0 := W0) ?_ _ _ ?_ ?_, cell2 (W0 := W0) ?_ _ _ ?_ ?_, cell2 (W0 := W0) ?_ _ _ ?_ ?_, cell2 (W0 := W0) ?_ _ _ ?_ ?_⟩ <;> first | assumption | omega | exact Nat.le_refl _)
      | ((try go_split_ands); refine ⟨keepZ (W0 := W0) ?_ ?_ _, cellZ (W0 := W0) ?_ _ ?_ ?_, cellZ (W0 := W0) ?_ _ ?_ ?_, cellZ (W0 := W0) ?_ _ ?_ ?_, cellZ (W0 := W0) ?_ _ ?_ ?_⟩ <;> first | assumption | omega | exact Nat.le_refl _ | exact ⟨_, by assumption⟩))
    (first | (go_at_call 60; (with_reducible refine (H1.out _).mono ?_); rintro e w1 ⟨rfl, hb1⟩; (try go_split_ands); have hge : W0.heap.size ≤ w1.heap.size := (by first | (refine (keepS (W0 := W0) ?_ hb1).size; assumption) | exact (hb1.size : W0.heap.size ≤ w1.heap.size)); (try have hrow := row_call hb1 hrow); (try have hrow := row_new hb1); (try have hrow := row_newd hb1); have hl1 := lt_below hb1; obtain ⟨hc1, hf1⟩ := bcell hb1; (try (have hrc := row_cellA hrow; clear hc1 hf1)); (try have hrf := row_frozA hrow)) | (go_at_call 60; (with_reducible refine (H2.out _).mono ?_); rintro e w1 ⟨rfl, hb1⟩; (try go_split_ands); have hge : W0.heap.size ≤ w1.heap.size := (by first | (refine (keepS (W0 := W0) ?_ hb1).size; assumption) | exact (hb1.size : W0.heap.size ≤ w1.heap.size)); (try have hrow := row_call hb1 hrow); (try have hrow := row_new hb1); (try have hrow := row_newd hb1); have hl1 := lt_below hb1; obtain ⟨hc1, hf1⟩ := bcell hb1; (try (have hrc := row_cellA hrow; clear hc1 hf1)); (try have hrf := row_frozA hrow)) | (go_at_call 34; refine (H3.out _ _ (by simp [go_sem]) (by simp [go_sem])).mono ?_; rintro e w1 ⟨rfl, hb1⟩; (try go_split_ands); have hge : W0.heap.size ≤ w1.heap.size := (by first | (refine (keepS (W0 := W0) ?_ hb1).size; assumption) | exact (hb1.size : W0.heap.size ≤ w1.heap.size)); (try have hrow := row_call hb1 hrow); (try have hrow := row_new hb1); (try have hrow := row_newd hb1); have hl1 := lt_below hb1; obtain ⟨hc1, hf1⟩ := bcell hb1; (try (have hrc := row_cellA hrow; clear hc1 hf1)); (try have hrf := row_frozA hrow)))
      all_goals (try go_split_ands)
      all_goals (go_wp2_with fail; go_meet; refine ⟨rfl, ?_⟩)
      all_goals first | (with_reducible assumption) | (with_reducible exact heap_alloc_new _ _) | (with_reducible exact row_set3 (by assumption) _ _ _) | assumption | exact heap_alloc_new _ _ | exact row_set (by assumption) _ _
    case rest =>
      obtain ⟨rfl, hB⟩ := hcut
      obtain ⟨V1, rfl⟩ : ∃ V, V = wc := ⟨_, rfl⟩
      clear A1_0 A1_1 zA1 D1_0 D1_1 zD1 Z1_0 Z1_1 Z1_f0 Z1_f1 zZ1
      replace A1 := Lib.hid (row_call hB A1.out)
      replace D1 := Lib.hid (row_call hB D1.out)
      replace Z1 := Lib.hid (row_call hB Z1.out)
      have B1 := Lib.hid (HB0.out.trans (hB.mono HB0.out.size))
      clear hB
      have A1_0 : V1.cell? ⟨w.heap.size, 0, none⟩ = some (.int .i64 s) := cell_of_row _ _ _ _ _ _ A1.out
      have A1_1 : V1.cell? ⟨w.heap.size, 1, none⟩ = some (.int .i64 n) := cell_of_row _ _ _ _ _ _ A1.out
      have zA1 := lt_of_heap A1.out
      have D1_0 : V1.cell? ⟨w.heap.size + 1, 0, none⟩ = some (.int .i64 d) := cell_of_row _ _ _ _ _ _ D1.out
      have D1_1 : V1.cell? ⟨w.heap.size + 1, 1, none⟩ = some (.int .i64 m) := cell_of_row _ _ _ _ _ _ D1.out
      have zD1 := lt_of_heap D1.out
      have Z1_0 : V1.cell? ⟨w.heap.size + 1 + 1, 0, none⟩ = some (.int .i64 0) := cell_of_row _ _ _ _ _ _ Z1.out
      have Z1_1 : V1.cell? ⟨w.heap.size + 1 + 1, 1, none⟩ = some (.int .i64 0) := cell_of_row _ _ _ _ _ _ Z1.out
      have Z1_f0 : V1.frozen? ⟨w.heap.size + 1 + 1, 0, none⟩ = false := (by simp [World.frozen?, Z1.out])
      have Z1_f1 : V1.frozen? ⟨w.heap.size + 1 + 1, 1, none⟩ = false := (by simp [World.frozen?, Z1.out])
      have zZ1 := lt_of_heap Z1.out
      go_wp2
      refine shut_ret (v := .tuple #[.agg #[.int .i64 0, .int .i64 0], .int .i64 E]) (by simp [results, Tryd.results40, go_sem, zZ1, Z1_0, Z1_1]) rfl ⟨rfl, ?_⟩
      exact keep2 B1.out (by omega) _ _
theorem compareI (x y : Int) : Lib.compareInt x y = ordI x y := by
  unfold Lib.compareInt ordI
  rfl
theorem ccmp_any (x y : Int) (w : World) : Calls Tryd.prog 43 #[.int .i64 x, .int .i64 y] w fun e w' => e = .returned (.int .i64 (ordI x y)) ∧ Below w.heap.size w w' :=
  (Tryd.cmp_Compare_int x y w).mono fun e w' ⟨he, hw⟩ => ⟨by rw [he, compareI], by rw [hw]; exact Below.refl _ _⟩
def orI (x y : Int) : Int := if x = 0 then y else x
theorem or_any (x y : Int) (b : Nat) (w : World) (c0 : w.cell? ⟨b, 0, none⟩ = some (.int .i64 x)) (c1 : w.cell? ⟨b, 1, none⟩ = some (.int .i64 y)) :
    Calls Tryd.prog 41 #[.slice (some ⟨b, 0, none⟩) 2 2] w fun e w' => e = .returned (.int .i64 (orI x y)) ∧ Below w.heap.size w w' := by
  by_cases h1 : x = 0
  · subst h1
    have E := Lib.hid (show orI 0 y = y from if_pos rfl)
    by_cases h2 : y = 0
    · subst h2
      go_enter Tryd.func41, Tryd.ntmps41
      go_wp2
      refine wp_loop_rounds 3 ?_
      rw [rounds_succ]
      go_wp2
      rw [rounds_succ]
      go_wp2
      rw [rounds_succ]
      go_wp2
      go_ret
      exact ⟨by rw [E.out]; try rfl, Below.refl _ _⟩
    · have f3 : (y != 0) = true := by rw [bne_iff_ne]; exact h2
      clear h2
      go_enter Tryd.func41, Tryd.ntmps41
      go_wp2
      refine wp_loop_rounds 3 ?_
      rw [rounds_succ]
      go_wp2
      rw [rounds_succ]
      go_wp2
      go_ret
      exact ⟨by rw [E.out]; try rfl, Below.refl _ _⟩
  · have E := Lib.hid (show orI x y = x from if_neg h1)
    have f3 : (x != 0) = true := by rw [bne_iff_ne]; exact h1
    clear h1
    go_enter Tryd.func41, Tryd.ntmps41
    go_wp2
    refine wp_loop_rounds 3 ?_
    rw [rounds_succ]
    go_wp2
    go_ret
    exact ⟨by rw [E.out]; try rfl, Below.refl _ _⟩
theorem ord_or (a b c d : Int) : orI (ordI a c) (ordI b d) = ord2 a b c d := by
  unfold orI ord2
  by_cases h : a = c
  · subst h
    have e : ordI a a = 0 := by unfold ordI; rw [if_neg (by omega), if_neg (by omega)]
    rw [if_pos rfl, if_pos e]
  · have e : ordI a c ≠ 0 := by
      unfold ordI
      split
      · decide
      · split
        · decide
        · omega
    rw [if_neg h, if_neg e]
set_option maxHeartbeats 1600000 in
set_option maxRecDepth 100000 in
theorem riCmp_any (s n d m : Int) (w : World) :
    Calls Tryd.prog 45 #[.agg #[.int .i64 s, .int .i64 n], .agg #[.int .i64 d, .int .i64 m]] w fun e w' => e = .returned (.int .i64 (ord2 s n d m)) ∧ Below w.heap.size w w' := by
  by_cases h : s = d
  · subst h
    have X1 := rOrder_any n m
    rw [show ordI n m = ord2 s n s m by unfold ord2; rw [if_pos rfl]] at X1
    have H1 := Lib.hid X1
    clear X1
    generalize ord2 s n s m = E at *
    go_enter Tryd.func45, Tryd.ntmps45
    go_wp2_with fail
    
    refine (H1.out _).mono ?_
    rintro e V1 ⟨rfl, hb1⟩
    have B1 : Hid (Below w.heap.size w V1) := by first | exact Lib.hid ((Below.refl w.heap.size w).trans (hb1.mono (by first | assumption | (simp <;> omega) | (simp; done)))) | exact Lib.hid (((Below.refl w.heap.size w).alloc (Nat.le_refl _) _).trans (hb1.mono (by first | assumption | (simp <;> omega) | (simp; done)))) | exact Lib.hid ((((Below.refl w.heap.size w).alloc (Nat.le_refl _) _).alloc (by simp <;> omega) _).trans (hb1.mono (by first | assumption | (simp <;> omega) | (simp; done)))) | exact Lib.hid (((((Below.refl w.heap.size w).alloc (Nat.le_refl _) _).alloc (by simp <;> omega) _).alloc (by simp <;> omega) _).trans (hb1.mono (by first | assumption | (simp <;> omega) | (simp; done))))
    clear hb1
    go_simp
    go_wp2
    go_ret
    exact ⟨rfl, B1.out⟩
  · have X1 := rOrder_any s d
    rw [show ordI s d = ord2 s n d m by unfold ord2; rw [if_neg h]] at X1
    have H1 := Lib.hid X1
    clear X1
    generalize ord2 s n d m = E at *
    have f1 : (s != d) = true := by rw [bne_iff_ne]; exact h
    clear h
    go_enter Tryd.func45, Tryd.ntmps45
    go_wp2_with fail
    
    refine (H1.out _).mono ?_
    rintro e V1 ⟨rfl, hb1⟩
    have B1 : Hid (Below w.heap.size w V1) := by first | exact Lib.hid ((Below.refl w.heap.size w).trans (hb1.mono (by first | assumption | (simp <;> omega) | (simp; done)))) | exact Lib.hid (((Below.refl w.heap.size w).alloc (Nat.le_refl _) _).trans (hb1.mono (by first | assumption | (simp <;> omega) | (simp; done)))) | exact Lib.hid ((((Below.refl w.heap.size w).alloc (Nat.le_refl _) _).alloc (by simp <;> omega) _).trans (hb1.mono (by first | assumption | (simp <;> omega) | (simp; done)))) | exact Lib.hid (((((Below.refl w.heap.size w).alloc (Nat.le_refl _) _).alloc (by simp <;> omega) _).alloc (by simp <;> omega) _).trans (hb1.mono (by first | assumption | (simp <;> omega) | (simp; done))))
    clear hb1
    go_simp
    go_wp2
    go_ret
    exact ⟨rfl, B1.out⟩
end Go.Proofs.YtaoljjhhbmblhaaDoor
namespace Go.Proofs.YtaoljjhhbmblhaaDoor
set_option linter.unusedVariables false
set_option linter.unusedSimpArgs false
open Go.ChangeShapes Go.WideShapes Go.ChangeAt Go.RowKit
theorem tk_self {s n : Int} (h : ckI s n = 0) : tkS (-377705116800) 253402300799 (nanos s n) = s ∧ tkN (-377705116800) 253402300799 (nanos s n) = n ∧ tkE (-377705116800) 253402300799 (nanos s n) = 0 := by
  obtain ⟨o2, o3, o4⟩ := of_ckI h
  have o5 := of_wmB o2
  have e1 : nanos s n / 1000000000 = s := by unfold nanos; omega
  have e2 : nanos s n % 1000000000 = n := by unfold nanos; omega
  obtain ⟨u1, u2, u3⟩ := @tk_yes (-377705116800) 253402300799 (nanos s n) (by rw [e1]; exact o3) (by rw [e1]; exact o4)
  rw [u1, u2, u3, e1, e2]
  exact ⟨rfl, rfl, rfl⟩
end Go.Proofs.YtaoljjhhbmblhaaDoor
namespace Go.Proofs.YtaoljjhhbmblhaaDoor
set_option linter.unusedVariables false
set_option linter.unusedSimpArgs false
open Go.ChangeShapes Go.WideShapes Go.ChangeAt Go.RowKit
theorem of_tkE {f l x : Int} (h : tkE f l x = 0) : f ≤ x / 1000000000 ∧ x / 1000000000 ≤ l := by
  by_cases h1 : f ≤ x / 1000000000 ∧ x / 1000000000 ≤ l
  · exact h1
  · rw [(tk_no h1).2.2] at h; omega
theorem ad_order {s n d m : Int} (h : adE s n d m = 0) : 0 ≤ n ∧ n < 1000000000 ∧ 0 ≤ m ∧ m < 1000000000 ∧ adS s n d m = (nanos s n + nanos d m) / 1000000000 ∧ adN s n d m = (nanos s n + nanos d m) % 1000000000 := by
  cases hw : wmB m
  · rw [(ad_form (s := s) (n := n) (d := d) hw).1] at h; omega
  · by_cases hc : ckI s n = 0
    · obtain ⟨t1, t2, t3⟩ := ad_sum (d := d) hw hc
      rw [t1] at h
      obtain ⟨a1, a2⟩ := of_tkE h
      obtain ⟨u1, u2, u3⟩ := tk_yes a1 a2
      have o5 := of_wmB (of_ckI hc).1
      have o6 := of_wmB hw
      exact ⟨o5.1, o5.2, o6.1, o6.2, t2.trans u1, t3.trans u2⟩
    · rw [(ad_err (d := d) hw hc).1] at h; exact absurd h hc
theorem ord2_of {a b c d : Int} : ord2 a b c d = if a = c then (if b < d then -1 else if d < b then 1 else 0) else (if a < c then -1 else if c < a then 1 else 0) := rfl
theorem ad_zero {s n : Int} (h : adE s n 0 0 = 0) : ord2 (adS s n 0 0) (adN s n 0 0) s n = 0 ∧ ord2 s n (adS s n 0 0) (adN s n 0 0) = 0 := by
  obtain ⟨h1, h2, h3, h4, h5, h6⟩ := ad_order h
  have e1 : adS s n 0 0 = s := by rw [h5]; unfold nanos; omega
  have e2 : adN s n 0 0 = n := by rw [h6]; unfold nanos; omega
  rw [e1, e2, ord2_of, if_pos rfl, if_neg (by omega), if_neg (by omega)]
  exact ⟨rfl, rfl⟩
theorem ad_up {s n d m : Int} (h : adE s n d m = 0) (hd : 0 ≤ d) (hz : ¬ (d = 0 ∧ m = 0)) : ord2 (adS s n d m) (adN s n d m) s n = 1 ∧ ord2 s n (adS s n d m) (adN s n d m) = -1 := by
  obtain ⟨h1, h2, h3, h4, h5, h6⟩ := ad_order h
  rw [h5, h6, ord2_of, ord2_of]
  unfold nanos
  constructor
  · repeat' split
    all_goals omega
  · repeat' split
    all_goals omega
theorem ad_down {s n d m : Int} (h : adE s n d m = 0) (hd : d < 0) : ord2 (adS s n d m) (adN s n d m) s n = -1 ∧ ord2 s n (adS s n d m) (adN s n d m) = 1 := by
  obtain ⟨h1, h2, h3, h4, h5, h6⟩ := ad_order h
  rw [h5, h6, ord2_of, ord2_of]
  unfold nanos
  constructor
  · repeat' split
    all_goals omega
  · repeat' split
    all_goals omega
end Go.Proofs.YtaoljjhhbmblhaaDoor
namespace Go.Proofs.YtaoljjhhbmblhaaDoor
set_option linter.unusedVariables false
set_option linter.unusedSimpArgs false
open Go.ChangeShapes Go.WideShapes Go.ChangeAt Go.RowKit
theorem back_sub {s n d m : Int} (h : fsI (ckI s n) (ckI d m) = 0) : adS d m (sbS s n d m) (sbN s n d m) = s ∧ adN d m (sbS s n d m) (sbN s n d m) = n ∧ adE d m (sbS s n d m) (sbN s n d m) = 0 := by
  obtain ⟨h1, h2⟩ := fs_zero h
  obtain ⟨t1, t2⟩ := sb_ok h
  have hw : wmB (sbN s n d m) = true := by rw [t2]; exact wmB_true (by omega) (by omega)
  obtain ⟨a1, a2, a3⟩ := ad_sum (s := d) (n := m) (d := sbS s n d m) hw h2
  have e : nanos d m + nanos (sbS s n d m) (sbN s n d m) = nanos s n := by
    rw [t1, t2]
    generalize nanos s n = p
    generalize nanos d m = q
    unfold nanos
    omega
  rw [e] at a1 a2 a3
  obtain ⟨u1, u2, u3⟩ := tk_self h1
  exact ⟨a2.trans u1, a3.trans u2, a1.trans u3⟩
theorem sb_64 (s n d m : Int) : in64 (sbS s n d m) ∧ in64 (sbN s n d m) := by
  by_cases h : fsI (ckI s n) (ckI d m) = 0
  · obtain ⟨t1, t2⟩ := sb_ok h
    obtain ⟨r1, r2⟩ := sb_in h
    rw [t1, t2]; unfold in64; omega
  · obtain ⟨t1, t2⟩ := sb_no h
    rw [t1, t2]; unfold in64; omega
end Go.Proofs.YtaoljjhhbmblhaaDoor
