/- Contracts of package wide: of an int, as an int, sum, difference, negative. -/
import Derived.Test.YthlbmeemdhofpaaRefG
import Derived.WalkKit
import Derived.ProofKit
import Derived.OpenShut
import Derived.Handy
import Derived.Outline
import Derived.Lib.Hide
import Derived.Deep.RegionHeld3
import Derived.Shelf.Spec.BitsCarry
import Derived.Test.YthlbmeemdhofpaaLotP
namespace Go.Proofs.Ythlbmeemdhofpaa
set_option linter.unusedVariables false
open Go.ChangeShapes Go.WideShapes Go.ChangeAt Go.RowKit

theorem add64_run (x y c : Nat) (hc : c ≤ 1) : ∃ s d : Nat, (∀ w, (callFunc 48 #[.int .u64 x, .int .u64 y, .int .u64 c]).run Try.prog w = .ok (.value (.tuple #[.int .u64 s, .int .u64 d])) w) ∧ Hid (s + 18446744073709551616 * d = x + y + c ∧ s < 18446744073709551616) := by
  refine ⟨(x + y + c) % 18446744073709551616, (x + y + c) / 18446744073709551616, fun w => ?_, ?_⟩
  · rw [run_callFunc_extern Try.func48 (by kernel_rfl) (by kernel_rfl) (by kernel_rfl) (e := add64Entry) (by kernel_rfl), run_add64 x y c (by omega) (by omega) (by omega) (by omega)]
    simp only [Result.andThen]
    congr 5
  · refine ⟨?_, ?_⟩ <;> omega
theorem sub64_run (x y b : Nat) (hb : b ≤ 1) (hx : U x) (hy : U y) : ∃ s d : Nat, (∀ w, (callFunc 49 #[.int .u64 x, .int .u64 y, .int .u64 b]).run Try.prog w = .ok (.value (.tuple #[.int .u64 s, .int .u64 d])) w) ∧ Hid (s + y + b = x + 18446744073709551616 * d ∧ s < 18446744073709551616 ∧ d ≤ 1) := by
  refine ⟨(x + 18446744073709551616 - y - b) % 18446744073709551616, (if x < y + b then 1 else 0), fun w => ?_, ?_⟩
  · rw [run_callFunc_extern Try.func49 (by kernel_rfl) (by kernel_rfl) (by kernel_rfl) (e := sub64Entry) (by kernel_rfl), run_sub64 x y b hb]
    rfl
  · unfold U at *
    refine ⟨?_, ?_, ?_⟩ <;> (try split) <;> omega

set_option maxHeartbeats 400000 in
set_option maxRecDepth 100000 in
theorem add_any (h1 l1 h2 l2 : Nat) (u1 : U h1) (v1 : U l1) (u2 : U h2) (v2 : U l2) (w : World) :
    Calls Try.prog 40 #[.agg #[.int .u64 h1, .int .u64 l1], .agg #[.int .u64 h2, .int .u64 l2]] w fun e w' => e = .returned (.tuple #[.agg #[.int .u64 (hi (num h1 l1 + num h2 l2)), .int .u64 (lo (num h1 l1 + num h2 l2))], .bool (big (num h1 l1 + num h2 l2))]) ∧ Below w.heap.size w w' := by
  obtain ⟨s, d, hr, H1⟩ := add64_run l1 l2 0 (by omega)
  have hd : d ≤ 1 := by have := H1.out; unfold U at v1 v2; omega
  obtain ⟨t, c, ht, H2⟩ := add64_run h1 h2 d hd
  have hr' : ∀ w, (callFunc 48 #[.int .u64 l1, .int .u64 l2, .int .u64 0]).run Try.prog w = .ok (.value (.tuple #[.int .u64 s, .int .u64 d])) w := hr
  have hc : c ≤ 1 := by have := H2.out; unfold U at u1 u2; omega
  have E1 : Hid (hi (num h1 l1 + num h2 l2) = t) := by have a := H1.out; have b := H2.out; show _ = _; unfold hi num; unfold U at *; omega
  have E2 : Hid (lo (num h1 l1 + num h2 l2) = s) := by have a := H1.out; have b := H2.out; show _ = _; unfold lo num; unfold U at *; omega
  have E3 : Hid (big (num h1 l1 + num h2 l2) = ((c : Int) != 0)) := by
    have a := H1.out; have b := H2.out; show _ = _
    have e : ((c : Int) != 0) = decide (c = 1) := by
      by_cases h : c = 1
      · subst h; rfl
      · have : c = 0 := by omega
        subst this; rfl
    rw [e]; unfold big num; rw [decide_eq_decide]; unfold U at *; omega
  clear hr hd hc H1 H2
  go_enter Try.func40, Try.ntmps40
  refine wp_shut ?_
  go_wp2
  refine shut_ret (v := .tuple #[.agg #[.int .u64 t, .int .u64 s], .bool ((c : Int) != 0)]) (by simp [results, Try.results40, go_sem]) rfl ⟨by rw [E1.out, E2.out, E3.out], ?_⟩
  go_grown

set_option maxHeartbeats 400000 in
set_option maxRecDepth 100000 in
theorem sub_any (h1 l1 h2 l2 : Nat) (u1 : U h1) (v1 : U l1) (u2 : U h2) (v2 : U l2) (w : World) :
    Calls Try.prog 42 #[.agg #[.int .u64 h1, .int .u64 l1], .agg #[.int .u64 h2, .int .u64 l2]] w fun e w' => e = .returned (.tuple #[.agg #[.int .u64 (hi (num h1 l1 + 340282366920938463463374607431768211456 - num h2 l2)), .int .u64 (lo (num h1 l1 + 340282366920938463463374607431768211456 - num h2 l2))], .bool (decide (num h1 l1 < num h2 l2))]) ∧ Below w.heap.size w w' := by
  obtain ⟨s, d, hr, H1⟩ := sub64_run l1 l2 0 (by omega) v1 v2
  have hd : d ≤ 1 := H1.out.2.2
  obtain ⟨t, c, ht, H2⟩ := sub64_run h1 h2 d hd u1 u2
  have hr' : ∀ w, (callFunc 49 #[.int .u64 l1, .int .u64 l2, .int .u64 0]).run Try.prog w = .ok (.value (.tuple #[.int .u64 s, .int .u64 d])) w := hr
  have E1 : Hid (hi (num h1 l1 + 340282366920938463463374607431768211456 - num h2 l2) = t) := by have a := H1.out; have b := H2.out; show _ = _; unfold hi num; unfold U at *; omega
  have E2 : Hid (lo (num h1 l1 + 340282366920938463463374607431768211456 - num h2 l2) = s) := by have a := H1.out; have b := H2.out; show _ = _; unfold lo num; unfold U at *; omega
  have E3 : Hid (decide (num h1 l1 < num h2 l2) = ((c : Int) != 0)) := by
    have a := H1.out; have b := H2.out; show _ = _
    have e : ((c : Int) != 0) = decide (c = 1) := by
      by_cases h : c = 1
      · subst h; rfl
      · have : c = 0 := by omega
        subst this; rfl
    rw [e]; unfold num; rw [decide_eq_decide]; unfold U at *; omega
  clear hr hd H1 H2
  go_enter Try.func42, Try.ntmps42
  refine wp_shut ?_
  go_wp2
  refine shut_ret (v := .tuple #[.agg #[.int .u64 t, .int .u64 s], .bool ((c : Int) != 0)]) (by simp [results, Try.results42, go_sem]) rfl ⟨by rw [E1.out, E2.out, E3.out], ?_⟩
  go_grown

theorem of_any (n : Int) (hn : -9223372036854775808 ≤ n ∧ n < 9223372036854775808) (w : World) : Calls Try.prog 41 #[.int .i64 n] w fun e w' => e = .returned (.agg #[.int .u64 (ofH n), .int .u64 (ofL n)]) ∧ Below w.heap.size w w' := by
  have HW := Lib.hid (wrap_ofL n)
  have HH : Hid (IntKind.u64.wrap (n / 9223372036854775808) = (ofH n : Int)) := by show _ = _; rw [IntKind.wrap_u64]; unfold ofH; split <;> omega
  clear hn
  go_enter Try.func41, Try.ntmps41
  refine wp_shut ?_
  go_wp2
  refine shut_ret (v := .agg #[.int .u64 (IntKind.u64.wrap (n / 9223372036854775808)), .int .u64 (IntKind.u64.wrap n)]) (by simp [results, Try.results41, go_sem]) rfl ⟨by rw [HH.out, HW.out], ?_⟩
  go_grown

set_option maxHeartbeats 1000000 in
set_option maxRecDepth 100000 in
theorem neg_any (h l : Nat) (u : U h) (v : U l) (w : World) :
    Calls Try.prog 38 #[.agg #[.int .u64 h, .int .u64 l]] w fun e w' => e = .returned (.agg #[.int .u64 (hi (340282366920938463463374607431768211456 - num h l)), .int .u64 (lo (340282366920938463463374607431768211456 - num h l))]) ∧ Below w.heap.size w w' := by
  have u0 : U 0 := by unfold U; omega
  have hs := sub_any 0 0 h l u0 u0 u v
  rw [num_zero, Nat.zero_add] at hs
  have HS := Lib.hid hs
  clear hs
  generalize 340282366920938463463374607431768211456 - num h l = n at *
  go_enter Try.func38, Try.ntmps38
  refine wp_shut ?_
  go_wp2_with fail
  refine (HS.out _).mono ?_
  rintro e w1 ⟨rfl, hb⟩
  obtain ⟨hc, hf⟩ := bcell hb
  have hz : w.heap.size + 1 < w1.heap.size := by have := hb.size; simp at this; omega
  have HB := Lib.hid hb
  clear hb
  go_wp2
  refine shut_ret (v := .agg #[.int .u64 (hi n), .int .u64 (lo n)]) (by simp [results, Try.results38, go_sem, hc, hz]) rfl ⟨rfl, ?_⟩
  have hB1 : Below w.heap.size w w1 := (below2 w _ _).trans (HB.out.mono (by simp; omega))
  go_grown

theorem sgn_bd (l : Nat) : -9223372036854775808 ≤ sgn l ∧ sgn l < 9223372036854775808 := by unfold sgn; rw [IntKind.wrap_i64]; omega
set_option maxHeartbeats 1000000 in
set_option maxRecDepth 100000 in
theorem int_any (h l : Nat) (u : U h) (v : U l) (w : World) :
    Calls Try.prog 39 #[.agg #[.int .u64 h, .int .u64 l]] w fun e w' => e = .returned (.tuple #[.int .i64 (if intOk h l then sgn l else 0), .int .i64 (if intOk h l then 0 else 8)]) ∧ Below w.heap.size w w' := by
  have hL : ofL (sgn l) = l := by unfold ofL sgn; rw [IntKind.wrap_i64]; unfold U at v; omega
  have hbd := sgn_bd l
  obtain ⟨x, hx⟩ : ∃ x, Hid (sgn l = x) := ⟨_, rfl⟩
  have hw : IntKind.i64.wrap (l : Int) = x := hx.out
  have ho := of_any x (by rw [← hx.out]; exact hbd)
  rw [show ofL x = l by rw [← hx.out]; exact hL] at ho
  have HO := Lib.hid ho
  clear ho hL hbd
  have hI : intOk h l = (ofH x == h) := by unfold intOk; rw [hx.out]
  rw [hI, hx.out]
  clear hI
  generalize ofH x = y at *
  obtain ⟨W0, hW0⟩ : ∃ W0, W0 = w.alloc (Obj.cells #[Value.int IntKind.u64 ↑h, Value.int IntKind.u64 ↑l] 60) := ⟨_, rfl⟩
  have c1 : W0.cell? ⟨w.heap.size, 0, none⟩ = some (.int .u64 h) := by rw [hW0]; simp [go_sem]
  have c2 : W0.cell? ⟨w.heap.size, 1, none⟩ = some (.int .u64 l) := by rw [hW0]; simp [go_sem]
  have hs0 : w.heap.size < W0.heap.size := by rw [hW0]; simp
  have hB0 : Below w.heap.size w W0 := by rw [hW0]; exact (Below.refl _ _).alloc (Nat.le_refl _) _
  have HB0 := Lib.hid hB0
  have HW0 := Lib.hid hW0
  clear hB0 hW0
  by_cases hy : y = h
  · subst hy
    have hyy : (y == y) = true := by simp
    go_enter Try.func39, Try.ntmps39
    go_wp2_with fail
    rw [← HW0.out]
    go_region_held3 (fun w' => Below W0.heap.size W0 w' ∧ w'.cell? ⟨w.heap.size, 0, none⟩ = some (.int .u64 y) ∧ w'.cell? ⟨w.heap.size, 1, none⟩ = some (.int .u64 l))
    (first
      | ((try go_split_ands); refine ⟨(Below.refl _ _).drew, ?_, ?_⟩ <;> first | assumption | (rw [World.cell?_drew]; assumption))
      | ((try go_split_ands); refine ⟨keepS (W0 := W0) ?_ hb1, cellS (W0 := W0) ?_ hb1 ?_ ?_, cellS (W0 := W0) ?_ hb1 ?_ ?_⟩ <;> first | assumption | omega)
      | ((try go_split_ands); refine ⟨keepA (W0 := W0) ?_ _, cellA (W0 := W0) ?_ _ ?_ ?_, cellA (W0 := W0) ?_ _ ?_ ?_⟩ <;> first | assumption | omega)
      | ((try go_split_ands); refine ⟨keepAd (W0 := W0) ?_ _, cellAd (W0 := W0) ?_ _ ?_ ?_, cellAd (W0 := W0) ?_ _ ?_ ?_⟩ <;> first | assumption | omega | exact Below.refl _ _))
    (first | (go_at_call 41; refine (HO.out _).mono ?_; rintro e w1 ⟨rfl, hb1⟩))
    go_split_ands
    have HB1 := Lib.hid (HB0.out.trans (((Below.refl W0.heap.size W0).drew.trans hb1).mono (by omega)))
    go_wp2
    go_ret2
    exact ⟨by simp, HB1.out⟩
  · have hyy : (y == h) = false := by simpa using hy
    have hyc : ((y : Int) == (h : Int)) = false := by rw [beq_eq_false_iff_ne]; omega
    go_enter Try.func39, Try.ntmps39
    go_wp2_with fail
    rw [← HW0.out]
    go_region_held3 (fun w' => Below W0.heap.size W0 w' ∧ w'.cell? ⟨w.heap.size, 0, none⟩ = some (.int .u64 h) ∧ w'.cell? ⟨w.heap.size, 1, none⟩ = some (.int .u64 l))
    (first
      | ((try go_split_ands); refine ⟨(Below.refl _ _).drew, ?_, ?_⟩ <;> first | assumption | (rw [World.cell?_drew]; assumption))
      | ((try go_split_ands); refine ⟨keepS (W0 := W0) ?_ hb1, cellS (W0 := W0) ?_ hb1 ?_ ?_, cellS (W0 := W0) ?_ hb1 ?_ ?_⟩ <;> first | assumption | omega)
      | ((try go_split_ands); refine ⟨keepA (W0 := W0) ?_ _, cellA (W0 := W0) ?_ _ ?_ ?_, cellA (W0 := W0) ?_ _ ?_ ?_⟩ <;> first | assumption | omega)
      | ((try go_split_ands); refine ⟨keepAd (W0 := W0) ?_ _, cellAd (W0 := W0) ?_ _ ?_ ?_, cellAd (W0 := W0) ?_ _ ?_ ?_⟩ <;> first | assumption | omega | exact Below.refl _ _))
    (first | (go_at_call 41; refine (HO.out _).mono ?_; rintro e w1 ⟨rfl, hb1⟩))
    go_split_ands
    have HB1 := Lib.hid (HB0.out.trans (((Below.refl W0.heap.size W0).drew.trans hb1).mono (by omega)))
    go_wp2
    go_ret2
    exact ⟨by simp, HB1.out⟩
end Go.Proofs.Ythlbmeemdhofpaa
