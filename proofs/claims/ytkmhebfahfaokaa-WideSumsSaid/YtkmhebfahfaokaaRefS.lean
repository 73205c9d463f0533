/- Contract of the plain answer of layer 1: the signed order. -/
import Derived.Test.YtkmhebfahfaokaaRefF
import Derived.Test.YtkmhebfahfaokaaRefG
import Derived.Test.YtkmhebfahfaokaaParseA
import Derived.WalkKit
import Derived.ProofKit
import Derived.OpenShut
import Derived.Handy
import Derived.Outline
import Derived.Lib.Hide
import Derived.Deep.RegionHeld3
namespace Go.Proofs.Ytkmhebfahfaokaa
set_option linter.unusedVariables false
open Go.ChangeShapes Go.WideShapes Go.ChangeAt Go.RowKit

set_option maxHeartbeats 1600000 in
theorem refSigned_any (h1 l1 h2 l2 : Nat) (v1 : U l1) (v2 : U l2) (w : World) :
    Calls Try.prog 22 #[.agg #[.int .u64 h1, .int .u64 l1], .agg #[.int .u64 h2, .int .u64 l2]] w fun e w' => e = .returned (.int .i64 (sgnI (num h1 l1) h1 (num h2 l2) h2)) ∧ Below w.heap.size w w' := by
  obtain ⟨p, hp⟩ : ∃ p, neg h1 = p := ⟨_, rfl⟩
  obtain ⟨q, hq⟩ : ∃ q, neg h2 = q := ⟨_, rfl⟩
  have X1 := below_any h1 l1
  have X2 := below_any h2 l2
  have X3 := refCmp_any h1 l1 h2 l2 v1 v2
  rw [hp] at X1
  rw [hq] at X2
  unfold sgnI
  rw [hp, hq]
  have H1 := Lib.hid X1
  have H2 := Lib.hid X2
  have H3 := Lib.hid X3
  clear X1 X2 X3 hp hq v1 v2
  generalize cmpI (num h1 l1) (num h2 l2) = m at *
  obtain ⟨W0, hW0⟩ : ∃ W0, W0 = (w.alloc (Obj.cells #[Value.int IntKind.u64 ↑h1, Value.int IntKind.u64 ↑l1] 24)).alloc (Obj.cells #[Value.int IntKind.u64 ↑h2, Value.int IntKind.u64 ↑l2] 24) := ⟨_, rfl⟩
  have c1 : W0.cell? ⟨w.heap.size, 0, none⟩ = some (.int .u64 h1) := by rw [hW0]; simp [go_sem]
  have c2 : W0.cell? ⟨w.heap.size, 1, none⟩ = some (.int .u64 l1) := by rw [hW0]; simp [go_sem]
  have c3 : W0.cell? ⟨w.heap.size + 1, 0, none⟩ = some (.int .u64 h2) := by rw [hW0]; simp [go_sem]
  have c4 : W0.cell? ⟨w.heap.size + 1, 1, none⟩ = some (.int .u64 l2) := by rw [hW0]; simp [go_sem]
  have hs0 : w.heap.size + 1 < W0.heap.size := by rw [hW0]; simp
  have hB0 : Below w.heap.size w W0 := by rw [hW0]; exact below2 _ _ _
  have HB0 := Lib.hid hB0
  have HW0 := Lib.hid hW0
  clear hB0 hW0
  cases p <;> cases q
  all_goals
    go_enter Try.func22, Try.ntmps22
    go_wp2_with fail
    rw [← HW0.out]
    go_region_held3 (fun w' => Below W0.heap.size W0 w' ∧ w'.cell? ⟨w.heap.size, 0, none⟩ = some (.int .u64 h1) ∧ w'.cell? ⟨w.heap.size, 1, none⟩ = some (.int .u64 l1) ∧ w'.cell? ⟨w.heap.size + 1, 0, none⟩ = some (.int .u64 h2) ∧ w'.cell? ⟨w.heap.size + 1, 1, none⟩ = some (.int .u64 l2))
    (first
      | ((try go_split_ands); refine ⟨(Below.refl _ _).drew, ?_, ?_, ?_, ?_⟩ <;> first | assumption | (rw [World.cell?_drew]; assumption))
      | ((try go_split_ands); refine ⟨keepS (W0 := W0) ?_ hb1, cellS (W0 := W0) ?_ hb1 ?_ ?_, cellS (W0 := W0) ?_ hb1 ?_ ?_, cellS (W0 := W0) ?_ hb1 ?_ ?_, cellS (W0 := W0) ?_ hb1 ?_ ?_⟩ <;> first | assumption | omega)
      | ((try go_split_ands); refine ⟨keepA (W0 := W0) ?_ _, cellA (W0 := W0) ?_ _ ?_ ?_, cellA (W0 := W0) ?_ _ ?_ ?_, cellA (W0 := W0) ?_ _ ?_ ?_, cellA (W0 := W0) ?_ _ ?_ ?_⟩ <;> first | assumption | omega)
      | ((try go_split_ands); refine ⟨keepAd (W0 := W0) ?_ _, cellAd (W0 := W0) ?_ _ ?_ ?_, cellAd (W0 := W0) ?_ _ ?_ ?_, cellAd (W0 := W0) ?_ _ ?_ ?_, cellAd (W0 := W0) ?_ _ ?_ ?_⟩ <;> first | assumption | omega | exact Below.refl _ _))
    (first | (go_at_call 58; refine (H1.out _).mono ?_; rintro e w1 ⟨rfl, hb1⟩) | (go_at_call 58; refine (H2.out _).mono ?_; rintro e w1 ⟨rfl, hb1⟩))
    go_split_ands
    rename_i B0 k1 k2 k3 k4
    have BW := Lib.hid (HB0.out.trans (B0.mono (by omega)))
    clear hb1 B0 c1 c2 c3 c4
    go_wp2_with fail
    first | refine (H1.out _).mono ?_ | refine (H3.out _).mono ?_
    rintro e w2 ⟨rfl, hb2⟩
    have B2 := Lib.hid (BW.out.trans (hb2.mono BW.out.size))
    clear hb2
    go_simp
    go_wp2
    go_ret
    exact ⟨rfl, B2.out⟩
end Go.Proofs.Ytkmhebfahfaokaa
