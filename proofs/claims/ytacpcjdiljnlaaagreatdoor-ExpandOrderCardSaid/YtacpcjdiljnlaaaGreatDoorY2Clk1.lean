/- Several texts in one: ClkA, ClkB, ClkC. -/
import Derived.Test.YtacpcjdiljnlaaaGreatDoorY2Pkg1
import Derived.Test.YtacpcjdiljnlaaaGreatDoorShelf
import Derived.Test.YtacpcjdiljnlaaaGreatDoorY2Pkg2
import Derived.Test.YtacpcjdiljnlaaaGreatDoorY2RowS1
import Derived.Test.YtacpcjdiljnlaaaGreatDoorY2Inst1
import Derived.Outline
import Derived.Deep.Cut
import Derived.Deep.RegionHeld3
import Derived.OwnWalk
import Derived.Lib.LaidTab
namespace Go.Proofs.YtacpcjdiljnlaaaGreatDoor
set_option linter.unusedVariables false
set_option linter.unusedSimpArgs false
open Go.ChangeShapes Go.WideShapes Go.ChangeAt Go.RowKit
def okK (h m s n : Int) : Prop := 0 ≤ h ∧ h ≤ 23 ∧ 0 ≤ m ∧ m ≤ 59 ∧ 0 ≤ s ∧ s ≤ 59 ∧ 0 ≤ n ∧ n < 1000000000
instance (h m s n : Int) : Decidable (okK h m s n) := by unfold okK; infer_instance
@[irreducible] def ckK (h m s n : Int) : Int := if okK h m s n then 0 else 5
theorem ckK_ok {h m s n : Int} (k : okK h m s n) : ckK h m s n = 0 := by unfold ckK; exact if_pos k
theorem ckK_no {h m s n : Int} (k : ¬ okK h m s n) : ckK h m s n = 5 := by unfold ckK; exact if_neg k
theorem of_ckK {h m s n : Int} (k : ckK h m s n = 0) : okK h m s n := by
  by_cases k2 : okK h m s n
  · exact k2
  · rw [ckK_no k2] at k; omega
set_option maxHeartbeats 3200000 in
set_option maxRecDepth 100000 in
theorem rkCheck_any (h m s n : Int) (w : World) : Calls Tryz.prog 169 #[.agg #[.int .i64 h, .int .i64 m, .int .i64 s, .int .i64 n]] w fun e w' => e = .returned (.int .i64 (ckK h m s n)) ∧ Below w.heap.size w w' := by
  by_cases k : okK h m s n
  · have E := Lib.hid (ckK_ok k)
    unfold okK at k
    have f1 : decide (h < 0) = false := decide_eq_false (by omega)
    have f2 : decide (23 < h) = false := decide_eq_false (by omega)
    have f3 : decide (m < 0) = false := decide_eq_false (by omega)
    have f4 : decide (59 < m) = false := decide_eq_false (by omega)
    have f5 : decide (s < 0) = false := decide_eq_false (by omega)
    have f6 : decide (59 < s) = false := decide_eq_false (by omega)
    have f7 : decide (n < 0) = false := decide_eq_false (by omega)
    have f8 : decide (1000000000 ≤ n) = false := decide_eq_false (by omega)
    clear k
    go_enter Tryz.func169, Tryz.ntmps169
    go_wp2
    go_ret
    exact ⟨by rw [E.out]; try rfl, (Below.refl _ _).alloc (Nat.le_refl _) _⟩
  · have E := Lib.hid (ckK_no k)
    have K : Hid (¬ okK h m s n) := Lib.hid k
    clear k
    go_enter Tryz.func169, Tryz.ntmps169
    go_wp2
    all_goals
      first
      | (exfalso; exact K.out (by unfold okK; omega))
      | (go_ret; exact ⟨by rw [E.out]; try rfl, (Below.refl _ _).alloc (Nat.le_refl _) _⟩)
def scK (h m s : Int) : Int := 3600 * h + 60 * m + s
theorem scK_bd {h m s n : Int} (k : okK h m s n) : 0 ≤ scK h m s ∧ scK h m s < 86400 := by unfold okK at k; unfold scK; omega
set_option maxHeartbeats 1600000 in
set_option maxRecDepth 100000 in
theorem rkSecs_any (h m s n : Int) (k : okK h m s n) (w : World) : Calls Tryz.prog 171 #[.agg #[.int .i64 h, .int .i64 m, .int .i64 s, .int .i64 n]] w fun e w' => e = .returned (.int .i64 (scK h m s)) ∧ Below w.heap.size w w' := by
  unfold okK at k
  obtain ⟨k1, k2, k3, k4, k5, k6, k7, k8⟩ := k
  have E : Hid (scK h m s = 3600 * h + 60 * m + s) := Lib.hid rfl
  go_enter Tryz.func171, Tryz.ntmps171
  go_wp2
  go_ret
  exact ⟨by rw [E.out]; try rfl, (Below.refl _ _).alloc (Nat.le_refl _) _⟩
def kM (n : Int) : Int := n / 1000000000 / 60 % 60
end Go.Proofs.YtacpcjdiljnlaaaGreatDoor
namespace Go.Proofs.YtacpcjdiljnlaaaGreatDoor
set_option linter.unusedVariables false
set_option linter.unusedSimpArgs false
open Go.ChangeShapes Go.WideShapes Go.ChangeAt Go.RowKit
theorem tdiv_parts (x c : Int) (hc : 0 < c) : (x.tmod c < 0 → x % c = x.tmod c + c ∧ x / c = x.tdiv c - 1) ∧ (¬ x.tmod c < 0 → x % c = x.tmod c ∧ x / c = x.tdiv c) ∧ -c < x.tmod c ∧ x.tmod c < c := by
  have h1 := Int.lt_tmod_of_pos x hc
  have h2 := Int.tmod_lt_of_pos x hc
  have h3 := Int.tmod_add_mul_tdiv x c
  have h4 := Int.emod_add_mul_ediv x c
  have h5 := Int.emod_nonneg x (show c ≠ 0 by omega)
  have h6 := Int.emod_lt_of_pos x hc
  refine ⟨fun h => ?_, fun h => ?_, by omega, h2⟩
  · have e : c * (x / c - (x.tdiv c - 1)) = x.tmod c + c - x % c := by rw [Int.mul_sub, Int.mul_sub]; omega
    have e0 : x / c - (x.tdiv c - 1) = 0 := by
      rcases Int.lt_trichotomy (x / c - (x.tdiv c - 1)) 0 with k | k | k
      · have := Int.mul_le_mul_of_nonneg_left (show x / c - (x.tdiv c - 1) ≤ -1 by omega) (show 0 ≤ c by omega)
        omega
      · exact k
      · have := Int.mul_le_mul_of_nonneg_left (show 1 ≤ x / c - (x.tdiv c - 1) by omega) (show 0 ≤ c by omega)
        omega
    rw [e0] at e
    omega
  · have e : c * (x / c - x.tdiv c) = x.tmod c - x % c := by rw [Int.mul_sub]; omega
    have e0 : x / c - x.tdiv c = 0 := by
      rcases Int.lt_trichotomy (x / c - x.tdiv c) 0 with k | k | k
      · have := Int.mul_le_mul_of_nonneg_left (show x / c - x.tdiv c ≤ -1 by omega) (show 0 ≤ c by omega)
        omega
      · exact k
      · have := Int.mul_le_mul_of_nonneg_left (show 1 ≤ x / c - x.tdiv c by omega) (show 0 ≤ c by omega)
        omega
    rw [e0] at e
    omega
end Go.Proofs.YtacpcjdiljnlaaaGreatDoor
namespace Go.Proofs.YtacpcjdiljnlaaaGreatDoor
set_option linter.unusedVariables false
set_option linter.unusedSimpArgs false
open Go.ChangeShapes Go.WideShapes Go.ChangeAt Go.RowKit
def szT : List Int := [24, 60, 60, 1000000000]
structure SZ (w : World) : Prop where
  all : ∀ g, Tryz.prog.globalNamed "analemma/clock.sizes" = some g → (∀ i : Nat, i < 4 → w.cell? ⟨g, i, none⟩ = some (.int .i64 (szT.getD i 0))) ∧ g < w.heap.size
theorem sz_keep {w w' : World} (h : Hid (SZ w)) (hb : Below w.heap.size w w') : SZ w' :=
  ⟨fun g hg => ⟨fun i hi => (hb.cell (p := ⟨g, i, none⟩) (h.out.all g hg).2).trans ((h.out.all g hg).1 i hi), Nat.lt_of_lt_of_le (h.out.all g hg).2 hb.size⟩⟩
end Go.Proofs.YtacpcjdiljnlaaaGreatDoor
