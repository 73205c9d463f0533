/- The walk of WeeksSum: the weeks of 400 years. -/
import Derived.Test.YtoghogpcgdcboaaDoorWkF
namespace Go.Proofs.YtoghogpcgdcboaaDoor
set_option linter.unusedVariables false
set_option linter.unusedSimpArgs false
open Go.ChangeShapes Go.WideShapes Go.ChangeAt Go.RowKit

/-- the weeks of the k years from y on. -/
@[irreducible] def wsS (y : Int) (k : Nat) : Int := (oneI (y + (k : Int)) - oneI y) / 7
theorem wsS_zero (y : Int) : wsS y 0 = 0 := by
  unfold wsS
  rw [show y + ((0 : Nat) : Int) = y from Int.add_zero y]; omega
theorem wsS_succ (y : Int) (k : Nat) : wsS y (k + 1) = wsS y k + wksI (y + (k : Int)) := by
  have h := (one_next (y + (k : Int))).1
  unfold wsS
  rw [show y + ((k + 1 : Nat) : Int) = y + (k : Int) + 1 by omega, h]; omega
theorem wsS_400 (y : Int) : wsS y 400 = 20871 := by
  unfold wsS
  have h := one_cycle y 1
  rw [show y + ((400 : Nat) : Int) = y + 400 * 1 by omega, h]; omega
theorem wsS_bd (y : Int) (k : Nat) : 0 ≤ wsS y k ∧ wsS y k ≤ 53 * k := by
  induction k with
  | zero => rw [wsS_zero]; decide
  | succ k ih =>
    have h := (one_next (y + (k : Int))).2
    rw [wsS_succ]; omega
set_option maxHeartbeats 3200000 in
set_option maxRecDepth 100000 in
theorem weeksSum_walk (y : Int) (w : World) (hM : MD w) : Calls Tryd.prog 7 #[.int .i64 y] w fun e w' => e = .returned (.bool true) ∧ Below w.heap.size w w' := by
  have H7 := Lib.hid awake7_any
  have HW := Lib.hid pWeeks_any
  have r1 := Int.lt_tmod_of_pos y (show (0 : Int) < 100000 by decide)
  have r2 := Int.tmod_lt_of_pos y (show (0 : Int) < 100000 by decide)
  generalize hr : y.tmod 100000 = r at *
  replace hM := Lib.hid hM
  go_enter Tryd.func7, Tryd.ntmps7
  go_wp2
  go_loopw [3, 4] (fun s3 s4 wr => ∃ k : Nat, k ≤ 400 ∧ s4 = .int .i64 (k : Int) ∧ s3 = .int .i64 (wsS r k) ∧ Below w.heap.size w wr) (fun _ s4 _ => (400 - intOf s4).toNat)
  case atStart => exact ⟨0, by omega, rfl, by rw [wsS_zero], Below.refl _ _⟩
  case round =>
    obtain ⟨k, hk, rfl, rfl, hB⟩ := hrel
    obtain ⟨V20, rfl⟩ : ∃ V, V = wr := ⟨_, rfl⟩
    have B20 := Lib.hid hB
    have b1 := (wsS_bd r k).1
    have b2 := (wsS_bd r k).2
    by_cases hlt : k < 400
    · have c0 : (k : Int) < 400 := by omega
      have c1 := (one_next (r + (k : Int))).2
      have c2 : Hid (wsS r (k + 1) = wsS r k + wksI (r + (k : Int))) := Lib.hid (wsS_succ r k)
      have H1 := Lib.hid (HW.out (r + (k : Int)))
      clear HW hB
      generalize wsS r k = S at *
      rcases c1 with c1 | c1
      all_goals
        rw [c1] at H1 c2
        clear c1
        
        go_wp2_with fail
        refine (H1.out _ (by first | exact md_keep hM (B20.out) | exact md_keep hM ((B20.out).alloc (B20.out.size) _) | exact md_keep hM (((B20.out).alloc (B20.out.size) _).alloc (by have := B20.out.size; simp <;> omega) _) | exact md_keep hM ((((B20.out).alloc (B20.out.size) _).alloc (by have := B20.out.size; simp <;> omega) _).alloc (by have := B20.out.size; simp <;> omega) _))).mono ?_
        rintro e V21 ⟨rfl, hb21⟩
        have B21 : Hid (Below w.heap.size w V21) := by first | exact Lib.hid ((B20.out).trans (hb21.mono (by have := B20.out.size; first | assumption | (simp <;> omega) | (simp; done)))) | exact Lib.hid (((B20.out).alloc (B20.out.size) _).trans (hb21.mono (by have := B20.out.size; first | assumption | (simp <;> omega) | (simp; done)))) | exact Lib.hid ((((B20.out).alloc (B20.out.size) _).alloc (by have := B20.out.size; simp <;> omega) _).trans (hb21.mono (by have := B20.out.size; first | assumption | (simp <;> omega) | (simp; done)))) | exact Lib.hid (((((B20.out).alloc (B20.out.size) _).alloc (by have := B20.out.size; simp <;> omega) _).alloc (by have := B20.out.size; simp <;> omega) _).trans (hb21.mono (by have := B20.out.size; first | assumption | (simp <;> omega) | (simp; done))))
        clear hb21
        go_simp
        go_wp2
        exact ⟨⟨k + 1, by omega, by go_num, by rw [c2.out], B21.out⟩, by simp [intOf]; omega⟩
    · obtain rfl : k = 400 := by omega
      have e := wsS_400 r
      rw [e]
      clear b1 b2 hB e
      
      go_wp2_with fail
      refine (H7.out _ (by first | exact md_keep hM (B20.out) | exact md_keep hM ((B20.out).alloc (B20.out.size) _) | exact md_keep hM (((B20.out).alloc (B20.out.size) _).alloc (by have := B20.out.size; simp <;> omega) _) | exact md_keep hM ((((B20.out).alloc (B20.out.size) _).alloc (by have := B20.out.size; simp <;> omega) _).alloc (by have := B20.out.size; simp <;> omega) _))).mono ?_
      rintro e V21 ⟨rfl, hb21⟩
      have B21 : Hid (Below w.heap.size w V21) := by first | exact Lib.hid ((B20.out).trans (hb21.mono (by have := B20.out.size; first | assumption | (simp <;> omega) | (simp; done)))) | exact Lib.hid (((B20.out).alloc (B20.out.size) _).trans (hb21.mono (by have := B20.out.size; first | assumption | (simp <;> omega) | (simp; done)))) | exact Lib.hid ((((B20.out).alloc (B20.out.size) _).alloc (by have := B20.out.size; simp <;> omega) _).trans (hb21.mono (by have := B20.out.size; first | assumption | (simp <;> omega) | (simp; done)))) | exact Lib.hid (((((B20.out).alloc (B20.out.size) _).alloc (by have := B20.out.size; simp <;> omega) _).alloc (by have := B20.out.size; simp <;> omega) _).trans (hb21.mono (by have := B20.out.size; first | assumption | (simp <;> omega) | (simp; done))))
      clear hb21
      go_simp
      go_wp2
      go_ret
      exact ⟨rfl, by first | exact B21.out | exact B21.out.alloc B21.out.size _⟩
end Go.Proofs.YtoghogpcgdcboaaDoor
