/- Contracts of the plain answers of layer 1: the negative, as an int, the signed order. -/
import Derived.Test.YthlbmeemdhofpaaRefE
import Derived.Test.YthlbmeemdhofpaaRefF
import Derived.WalkKit
import Derived.ProofKit
import Derived.OpenShut
import Derived.Handy
import Derived.Outline
import Derived.Lib.Hide
import Derived.Deep.RegionHeld3
import Derived.Test.YthlbmeemdhofpaaLotP
namespace Go.Proofs.Ythlbmeemdhofpaa
set_option linter.unusedVariables false
open Go.ChangeShapes Go.WideShapes Go.ChangeAt Go.RowKit

set_option maxHeartbeats 1000000 in
set_option maxRecDepth 100000 in
theorem refNeg_any (h l : Nat) (u : U h) (v : U l) (w : World) :
    Calls Try.prog 46 #[.agg #[.int .u64 h, .int .u64 l]] w fun e w' => e = .returned (.agg #[.int .u64 (hi (340282366920938463463374607431768211456 - num h l)), .int .u64 (lo (340282366920938463463374607431768211456 - num h l))]) ∧ Below w.heap.size w w' := by
  have u0 : U 0 := by unfold U; omega
  have hs := refSub_any 0 0 h l u0 u0 u v
  rw [num_zero, Nat.zero_add] at hs
  have HS := Lib.hid hs
  clear hs
  generalize 340282366920938463463374607431768211456 - num h l = n at *
  go_enter Try.func46, Try.ntmps46
  refine wp_shut ?_
  go_wp2_with fail
  refine (HS.out _).mono ?_
  rintro e w1 ⟨rfl, hb⟩
  obtain ⟨hc, hf⟩ := bcell hb
  have hz : w.heap.size + 1 < w1.heap.size := by have := hb.size; simp at this; omega
  have HB := Lib.hid hb
  clear hb
  go_wp2
  refine shut_ret (v := .agg #[.int .u64 (hi n), .int .u64 (lo n)]) (by simp [results, Try.results46, go_sem, hc, hz]) rfl ⟨rfl, ?_⟩
  have hB1 : Below w.heap.size w w1 := (below2 w _ _).trans (HB.out.mono (by simp; omega))
  go_grown

def sgn (l : Nat) : Int := IntKind.i64.wrap l
def intOk (h l : Nat) : Bool := ofH (sgn l) == h
set_option maxHeartbeats 1000000 in
set_option maxRecDepth 100000 in
theorem refInt_any (h l : Nat) (u : U h) (v : U l) (w : World) :
    Calls Try.prog 34 #[.agg #[.int .u64 h, .int .u64 l]] w fun e w' => e = .returned (.tuple #[.int .i64 (if intOk h l then sgn l else 0), .int .i64 (if intOk h l then 0 else 8)]) ∧ Below w.heap.size w w' := by
  have hL : ofL (sgn l) = l := by unfold ofL sgn; rw [IntKind.wrap_i64]; unfold U at v; omega
  obtain ⟨x, hx⟩ : ∃ x, Hid (sgn l = x) := ⟨_, rfl⟩
  have hw : IntKind.i64.wrap (l : Int) = x := hx.out
  have ho := refOf_any x
  rw [show ofL x = l by rw [← hx.out]; exact hL] at ho
  have HO := Lib.hid ho
  clear ho hL
  have hI : intOk h l = (ofH x == h) := by unfold intOk; rw [hx.out]
  rw [hI, hx.out]
  clear hI
  generalize ofH x = y at *
  obtain ⟨W0, hW0⟩ : ∃ W0, W0 = w.alloc (Obj.cells #[Value.int IntKind.u64 ↑h, Value.int IntKind.u64 ↑l] 60) := ⟨_, rfl⟩
  have c1 : W0.cell? ⟨w.heap.size, 0, none⟩ = some (.int .u64 h) := by rw [hW0]; simp [go_sem]
  have c2 : W0.cell? ⟨w.heap.size, 1, none⟩ = some (.int .u64 l) := by rw [hW0]; simp [go_sem]
  have hs0 : w.heap.size < W0.heap.size := by rw [hW0]; simp
  have hB0 : Below w.heap.size w W0 := by rw [hW0]; exact (Below.refl _ _).alloc (Nat.le_refl _) _
  have HB0 := Lib.hid hB0
  have HW0 := Lib.hid hW0
  clear hB0 hW0
  by_cases hy : y = h
  · subst hy
    have hyy : (y == y) = true := by simp
    go_enter Try.func34, Try.ntmps34
    go_wp2_with fail
    rw [← HW0.out]
    go_region_held3 (fun w' => Below W0.heap.size W0 w' ∧ w'.cell? ⟨w.heap.size, 0, none⟩ = some (.int .u64 y) ∧ w'.cell? ⟨w.heap.size, 1, none⟩ = some (.int .u64 l))
    (first
      | ((try go_split_ands); refine ⟨(Below.refl _ _).drew, ?_, ?_⟩ <;> first | assumption | (rw [World.cell?_drew]; assumption))
      | ((try go_split_ands); refine ⟨keepS (W0 := W0) ?_ hb1, cellS (W0 := W0) ?_ hb1 ?_ ?_, cellS (W0 := W0) ?_ hb1 ?_ ?_⟩ <;> first | assumption | omega)
      | ((try go_split_ands); refine ⟨keepA (W0 := W0) ?_ _, cellA (W0 := W0) ?_ _ ?_ ?_, cellA (W0 := W0) ?_ _ ?_ ?_⟩ <;> first | assumption | omega)
      | ((try go_split_ands); refine ⟨keepAd (W0 := W0) ?_ _, cellAd (W0 := W0) ?_ _ ?_ ?_, cellAd (W0 := W0) ?_ _ ?_ ?_⟩ <;> first | assumption | omega | exact Below.refl _ _))
    (first | (go_at_call 43; refine (HO.out _).mono ?_; rintro e w1 ⟨rfl, hb1⟩))
    go_split_ands
    have HB1 := Lib.hid (HB0.out.trans (((Below.refl W0.heap.size W0).drew.trans hb1).mono (by omega)))
    go_wp2
    go_ret2
    exact ⟨by simp, HB1.out⟩
  · have hyy : (y == h) = false := by simpa using hy
    have hyc : ((y : Int) == (h : Int)) = false := by rw [beq_eq_false_iff_ne]; omega
    go_enter Try.func34, Try.ntmps34
    go_wp2_with fail
    rw [← HW0.out]
    go_region_held3 (fun w' => Below W0.heap.size W0 w' ∧ w'.cell? ⟨w.heap.size, 0, none⟩ = some (.int .u64 h) ∧ w'.cell? ⟨w.heap.size, 1, none⟩ = some (.int .u64 l))
    (first
      | ((try go_split_ands); refine ⟨(Below.refl _ _).drew, ?_, ?_⟩ <;> first | assumption | (rw [World.cell?_drew]; assumption))
      | ((try go_split_ands); refine ⟨keepS (W0 := W0) ?_ hb1, cellS (W0 := W0) ?_ hb1 ?_ ?_, cellS (W0 := W0) ?_ hb1 ?_ ?_⟩ <;> first | assumption | omega)
      | ((try go_split_ands); refine ⟨keepA (W0 := W0) ?_ _, cellA (W0 := W0) ?_ _ ?_ ?_, cellA (W0 := W0) ?_ _ ?_ ?_⟩ <;> first | assumption | omega)
      | ((try go_split_ands); refine ⟨keepAd (W0 := W0) ?_ _, cellAd (W0 := W0) ?_ _ ?_ ?_, cellAd (W0 := W0) ?_ _ ?_ ?_⟩ <;> first | assumption | omega | exact Below.refl _ _))
    (first | (go_at_call 43; refine (HO.out _).mono ?_; rintro e w1 ⟨rfl, hb1⟩))
    go_split_ands
    have HB1 := Lib.hid (HB0.out.trans (((Below.refl W0.heap.size W0).drew.trans hb1).mono (by omega)))
    go_wp2
    go_ret2
    exact ⟨by simp, HB1.out⟩
end Go.Proofs.Ythlbmeemdhofpaa
