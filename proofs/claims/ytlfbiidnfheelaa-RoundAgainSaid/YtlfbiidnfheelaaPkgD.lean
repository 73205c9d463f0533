/- Contracts of package wide: quotient and rest. -/
import Derived.Test.YtlfbiidnfheelaaPkgC
import Derived.WalkKit
import Derived.ProofKit
import Derived.OpenShut
import Derived.Handy
import Derived.Outline
import Derived.Lib.Hide
import Derived.Deep.RegionHeld3
import Derived.Test.YtlfbiidnfheelaaLotP
namespace Go.Proofs.Ytlfbiidnfheelaa
set_option linter.unusedVariables false
open Go.ChangeShapes Go.WideShapes Go.ChangeAt Go.RowKit

set_option maxHeartbeats 300000 in
set_option maxRecDepth 100000 in
theorem div_any (h l b : Nat) (hh : U h) (hl : U l) (hb : U b) (hb0 : 0 < b) (w : World) : Calls Try.prog 66 #[.agg #[.int .u64 h, .int .u64 l], .int .u64 b] w fun e w' =>
    e = .returned (.tuple #[.agg #[.int .u64 (hi (num h l / b)), .int .u64 (lo (num h l / b))], .int .u64 (num h l % b : Nat), .int .i64 0]) ∧ Below w.heap.size w w' := by
  obtain ⟨p1, p2, p3⟩ := div_parts h l b hh hl hb hb0
  obtain ⟨m, Em⟩ : ∃ m, Hid (m = h % b) := ⟨_, rfl⟩
  have hm : m < b := by rw [Em.out]; exact Nat.mod_lt _ hb0
  have fm : ((h : Int) % (b : Int)) = (m : Int) := by rw [Em.out, Int.natCast_emod]
  have ftm : (h : Int).tmod (b : Int) = (m : Int) := by rw [Int.tmod_eq_emod_of_nonneg (by omega)]; exact fm
  have fwm : IntKind.u64.wrap (m : Int) = (m : Int) := wrap_nat _ (Nat.lt_trans hm hb)
  have hc := div64 m l b (Nat.lt_trans hm hb) hl hm hb
  rw [← Em.out] at p2 p3
  obtain ⟨q, Eq⟩ : ∃ q, Hid (q = num m l / b) := ⟨_, rfl⟩
  obtain ⟨r, Er⟩ : ∃ r, Hid (r = num m l % b) := ⟨_, rfl⟩
  have hc2 : ∀ w, Calls Try.prog 80 #[.int .u64 m, .int .u64 l, .int .u64 b] w fun e w' => e = .returned (.tuple #[.int .u64 q, .int .u64 r]) ∧ Below w.heap.size w w' := fun w => (hc w).mono fun e w' ⟨a, b⟩ => ⟨by rw [a, Eq.out, Er.out], b⟩
  have HC := Lib.hid hc2
  obtain ⟨t, Et⟩ : ∃ t, Hid (t = h / b) := ⟨_, rfl⟩
  have ft : IntKind.u64.wrap ((h : Int) / (b : Int)) = (t : Int) := by
    have e : ((h : Int) / (b : Int)) = (t : Int) := by rw [Et.out]; rfl
    rw [e]; exact wrap_nat _ (by rw [Et.out]; exact Nat.lt_of_le_of_lt (Nat.div_le_self _ _) hh)
  have E1 : Hid (hi (num h l / b) = t) := by show _ = _; rw [p1, Et.out]
  have E2 : Hid (lo (num h l / b) = q) := by show _ = _; rw [p2, Eq.out]
  have E3 : Hid (num h l % b = r) := by show _ = _; rw [p3, Er.out]
  have hbz : ((b : Int) == 0) = false := by rw [beq_eq_false_iff_ne]; omega
  have hbp : (0 : Int) < (b : Int) := by omega
  have hbn : ¬ ((b : Int) = 0) := by omega
  have hbn2 : ¬ (b = 0) := by omega
  clear p1 p2 p3 hm hc hc2 hh hl hb hb0
  obtain ⟨W0, hW0⟩ : ∃ W0, W0 = (w.alloc (Obj.cells #[Value.int IntKind.u64 ↑h, Value.int IntKind.u64 ↑l] 24)).alloc (Obj.cells #[Value.int IntKind.u64 0, Value.int IntKind.u64 0] 24) := ⟨_, rfl⟩
  have c1 : W0.cell? ⟨w.heap.size, 0, none⟩ = some (.int .u64 h) := by rw [hW0]; simp [go_sem]
  have c2 : W0.cell? ⟨w.heap.size, 1, none⟩ = some (.int .u64 l) := by rw [hW0]; simp [go_sem]
  have c3 : W0.cell? ⟨w.heap.size + 1, 0, none⟩ = some (.int .u64 0) := by rw [hW0]; simp [go_sem]
  have c4 : W0.cell? ⟨w.heap.size + 1, 1, none⟩ = some (.int .u64 0) := by rw [hW0]; simp [go_sem]
  have d3 : W0.frozen? ⟨w.heap.size + 1, 0, none⟩ = false := by rw [hW0]; simp [go_sem]
  have d4 : W0.frozen? ⟨w.heap.size + 1, 1, none⟩ = false := by rw [hW0]; simp [go_sem]
  have hs0 : w.heap.size + 1 < W0.heap.size := by rw [hW0]; simp
  have hB0 : Below w.heap.size w W0 := by rw [hW0]; exact below2 _ _ _
  have HB0 := Lib.hid hB0
  have HW0 := Lib.hid hW0
  clear hB0 hW0
  go_enter Try.func66, Try.ntmps66
  refine wp_shut ?_
  go_wp2_with fail
  rw [← HW0.out]
  go_region_held3 (fun w' => Below W0.heap.size W0 w' ∧ w'.cell? ⟨w.heap.size, 0, none⟩ = some (.int .u64 h) ∧ w'.cell? ⟨w.heap.size, 1, none⟩ = some (.int .u64 l))
    (first
      | ((try go_split_ands); refine ⟨(Below.refl _ _).drew, ?_, ?_⟩ <;> first | assumption | (rw [World.cell?_drew]; assumption))
      | ((try go_split_ands); refine ⟨keepS (W0 := W0) ?_ hb1, cellS (W0 := W0) ?_ hb1 ?_ ?_, cellS (W0 := W0) ?_ hb1 ?_ ?_⟩ <;> first | assumption | omega)
      | ((try go_split_ands); refine ⟨keepA (W0 := W0) ?_ _, cellA (W0 := W0) ?_ _ ?_ ?_, cellA (W0 := W0) ?_ _ ?_ ?_⟩ <;> first | assumption | omega)
      | ((try go_split_ands); refine ⟨keepAd (W0 := W0) ?_ _, cellAd (W0 := W0) ?_ _ ?_ ?_, cellAd (W0 := W0) ?_ _ ?_ ?_⟩ <;> first | assumption | omega | exact Below.refl _ _))
    (first | (go_at_call 80; refine (HC.out _).mono ?_; rintro e w1 ⟨rfl, hb1⟩))
  go_split_ands
  have hBw : Below W0.heap.size W0 w1 := (Below.refl W0.heap.size W0).drew.trans hb1
  have k3 : w1.cell? ⟨w.heap.size + 1, 0, none⟩ = some (.int .u64 0) := by rw [hBw.cell (p := ⟨w.heap.size + 1, 0, none⟩) hs0]; exact c3
  have k4 : w1.cell? ⟨w.heap.size + 1, 1, none⟩ = some (.int .u64 0) := by rw [hBw.cell (p := ⟨w.heap.size + 1, 1, none⟩) hs0]; exact c4
  have g3 : w1.frozen? ⟨w.heap.size + 1, 0, none⟩ = false := by rw [hBw.frozen (p := ⟨w.heap.size + 1, 0, none⟩) hs0]; exact d3
  have g4 : w1.frozen? ⟨w.heap.size + 1, 1, none⟩ = false := by rw [hBw.frozen (p := ⟨w.heap.size + 1, 1, none⟩) hs0]; exact d4
  have HB1 := Lib.hid (HB0.out.trans (hBw.mono (by omega)))
  clear hb1 hBw c1 c2 c3 c4 d3 d4 hs0
  go_wp2
  refine shut_ret (v := .tuple #[.agg #[.int .u64 t, .int .u64 q], .int .u64 r, .int .i64 0]) (by simp [results, Try.results66, go_sem, k3, k4]) rfl ⟨by rw [E1.out, E2.out, E3.out], ?_⟩
  exact (HB1.out.setCell (by show w.heap.size ≤ w.heap.size + 1; omega) _).setCell (by show w.heap.size ≤ w.heap.size + 1; omega) _

end Go.Proofs.Ytlfbiidnfheelaa
