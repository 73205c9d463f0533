/- Several texts in one: PkgA, PkgB, PkgC, PkgD, LotQ. -/
import Derived.Test.YtoopbgpoelpjfaaDoorZPkg1
import Derived.Test.YtoopbgpoelpjfaaDoorZRef1
import Derived.Test.YtoopbgpoelpjfaaDoorShelf
import Derived.WalkKit
import Derived.ProofKit
import Derived.OpenShut
import Derived.Handy
import Derived.Outline
import Derived.Lib.Hide
import Derived.Deep.RegionHeld3
import Derived.Shelf.Spec.BitsCarry
import Derived.Shelf.Bits.Mul64
import Derived.Deep.QuietTactic
import Derived.BigQuiet
import Derived.Lib.SmallJoins
import Derived.WalkSpells
import Derived.WalkLawsBesides
import Derived.Deep.DeepCutAuto
import Derived.Lib.ConvBytes
import Derived.Lib.Strings
import Derived.OwnWalk
namespace Go.Proofs.YtoopbgpoelpjfaaDoor
set_option linter.unusedVariables false
open Go.ChangeShapes Go.WideShapes Go.ChangeAt Go.RowKit
theorem add64_run (x y c : Nat) (hc : c ≤ 1) : ∃ s d : Nat, (∀ w, (callFunc 75 #[.int .u64 x, .int .u64 y, .int .u64 c]).run Tryd.prog w = .ok (.value (.tuple #[.int .u64 s, .int .u64 d])) w) ∧ Hid (s + 18446744073709551616 * d = x + y + c ∧ s < 18446744073709551616) := by
  refine ⟨(x + y + c) % 18446744073709551616, (x + y + c) / 18446744073709551616, fun w => ?_, ?_⟩
  · rw [run_callFunc_extern Tryd.func75 (by kernel_rfl) (by kernel_rfl) (by kernel_rfl) (e := add64Entry) (by kernel_rfl), run_add64 x y c (by omega) (by omega) (by omega) (by omega)]
    simp only [Result.andThen]
    congr 5
  · refine ⟨?_, ?_⟩ <;> omega
theorem sub64_run (x y b : Nat) (hb : b ≤ 1) (hx : U x) (hy : U y) : ∃ s d : Nat, (∀ w, (callFunc 84 #[.int .u64 x, .int .u64 y, .int .u64 b]).run Tryd.prog w = .ok (.value (.tuple #[.int .u64 s, .int .u64 d])) w) ∧ Hid (s + y + b = x + 18446744073709551616 * d ∧ s < 18446744073709551616 ∧ d ≤ 1) := by
  refine ⟨(x + 18446744073709551616 - y - b) % 18446744073709551616, (if x < y + b then 1 else 0), fun w => ?_, ?_⟩
  · rw [run_callFunc_extern Tryd.func84 (by kernel_rfl) (by kernel_rfl) (by kernel_rfl) (e := sub64Entry) (by kernel_rfl), run_sub64 x y b hb]
    rfl
  · unfold U at *
    refine ⟨?_, ?_, ?_⟩ <;> (try split) <;> omega
set_option maxHeartbeats 400000 in
set_option maxRecDepth 100000 in
theorem add_any (h1 l1 h2 l2 : Nat) (u1 : U h1) (v1 : U l1) (u2 : U h2) (v2 : U l2) (w : World) :
    Calls Tryd.prog 69 #[.agg #[.int .u64 h1, .int .u64 l1], .agg #[.int .u64 h2, .int .u64 l2]] w fun e w' => e = .returned (.tuple #[.agg #[.int .u64 (hi (num h1 l1 + num h2 l2)), .int .u64 (lo (num h1 l1 + num h2 l2))], .bool (big (num h1 l1 + num h2 l2))]) ∧ Below w.heap.size w w' := by
  obtain ⟨s, d, hr, H1⟩ := add64_run l1 l2 0 (by omega)
  have hd : d ≤ 1 := by have := H1.out; unfold U at v1 v2; omega
  obtain ⟨t, c, ht, H2⟩ := add64_run h1 h2 d hd
  have hr' : ∀ w, (callFunc 75 #[.int .u64 l1, .int .u64 l2, .int .u64 0]).run Tryd.prog w = .ok (.value (.tuple #[.int .u64 s, .int .u64 d])) w := hr
  have hc : c ≤ 1 := by have := H2.out; unfold U at u1 u2; omega
  have E1 : Hid (hi (num h1 l1 + num h2 l2) = t) := by have a := H1.out; have b := H2.out; show _ = _; unfold hi num; unfold U at *; omega
  have E2 : Hid (lo (num h1 l1 + num h2 l2) = s) := by have a := H1.out; have b := H2.out; show _ = _; unfold lo num; unfold U at *; omega
  have E3 : Hid (big (num h1 l1 + num h2 l2) = ((c : Int) != 0)) := by
    have a := H1.out; have b := H2.out; show _ = _
    have e : ((c : Int) != 0) = decide (c = 1) := by
      by_cases h : c = 1
      · subst h; rfl
      · have : c = 0 := by omega
        subst this; rfl
    rw [e]; unfold big num; rw [decide_eq_decide]; unfold U at *; omega
  clear hr hd hc H1 H2
  go_enter Tryd.func69, Tryd.ntmps69
  refine wp_shut ?_
  go_wp2
  refine shut_ret (v := .tuple #[.agg #[.int .u64 t, .int .u64 s], .bool ((c : Int) != 0)]) (by simp [results, Tryd.results69, go_sem]) rfl ⟨by rw [E1.out, E2.out, E3.out], ?_⟩
  go_grown
set_option maxHeartbeats 400000 in
set_option maxRecDepth 100000 in
theorem sub_any (h1 l1 h2 l2 : Nat) (u1 : U h1) (v1 : U l1) (u2 : U h2) (v2 : U l2) (w : World) :
    Calls Tryd.prog 82 #[.agg #[.int .u64 h1, .int .u64 l1], .agg #[.int .u64 h2, .int .u64 l2]] w fun e w' => e = .returned (.tuple #[.agg #[.int .u64 (hi (num h1 l1 + 340282366920938463463374607431768211456 - num h2 l2)), .int .u64 (lo (num h1 l1 + 340282366920938463463374607431768211456 - num h2 l2))], .bool (decide (num h1 l1 < num h2 l2))]) ∧ Below w.heap.size w w' := by
  obtain ⟨s, d, hr, H1⟩ := sub64_run l1 l2 0 (by omega) v1 v2
  have hd : d ≤ 1 := H1.out.2.2
  obtain ⟨t, c, ht, H2⟩ := sub64_run h1 h2 d hd u1 u2
  have hr' : ∀ w, (callFunc 84 #[.int .u64 l1, .int .u64 l2, .int .u64 0]).run Tryd.prog w = .ok (.value (.tuple #[.int .u64 s, .int .u64 d])) w := hr
  have E1 : Hid (hi (num h1 l1 + 340282366920938463463374607431768211456 - num h2 l2) = t) := by have a := H1.out; have b := H2.out; show _ = _; unfold hi num; unfold U at *; omega
  have E2 : Hid (lo (num h1 l1 + 340282366920938463463374607431768211456 - num h2 l2) = s) := by have a := H1.out; have b := H2.out; show _ = _; unfold lo num; unfold U at *; omega
  have E3 : Hid (decide (num h1 l1 < num h2 l2) = ((c : Int) != 0)) := by
    have a := H1.out; have b := H2.out; show _ = _
    have e : ((c : Int) != 0) = decide (c = 1) := by
      by_cases h : c = 1
      · subst h; rfl
      · have : c = 0 := by omega
        subst this; rfl
    rw [e]; unfold num; rw [decide_eq_decide]; unfold U at *; omega
  clear hr hd H1 H2
  go_enter Tryd.func82, Tryd.ntmps82
  refine wp_shut ?_
  go_wp2
  refine shut_ret (v := .tuple #[.agg #[.int .u64 t, .int .u64 s], .bool ((c : Int) != 0)]) (by simp [results, Tryd.results82, go_sem]) rfl ⟨by rw [E1.out, E2.out, E3.out], ?_⟩
  go_grown
theorem of_any (n : Int) (hn : -9223372036854775808 ≤ n ∧ n < 9223372036854775808) (w : World) : Calls Tryd.prog 70 #[.int .i64 n] w fun e w' => e = .returned (.agg #[.int .u64 (ofH n), .int .u64 (ofL n)]) ∧ Below w.heap.size w w' := by
  have HW := Lib.hid (wrap_ofL n)
  have HH : Hid (IntKind.u64.wrap (n / 9223372036854775808) = (ofH n : Int)) := by show _ = _; rw [IntKind.wrap_u64]; unfold ofH; split <;> omega
  clear hn
  go_enter Tryd.func70, Tryd.ntmps70
  refine wp_shut ?_
  go_wp2
  refine shut_ret (v := .agg #[.int .u64 (IntKind.u64.wrap (n / 9223372036854775808)), .int .u64 (IntKind.u64.wrap n)]) (by simp [results, Tryd.results70, go_sem]) rfl ⟨by rw [HH.out, HW.out], ?_⟩
  go_grown
set_option maxHeartbeats 1000000 in
set_option maxRecDepth 100000 in
theorem neg_any (h l : Nat) (u : U h) (v : U l) (w : World) :
    Calls Tryd.prog 79 #[.agg #[.int .u64 h, .int .u64 l]] w fun e w' => e = .returned (.agg #[.int .u64 (hi (340282366920938463463374607431768211456 - num h l)), .int .u64 (lo (340282366920938463463374607431768211456 - num h l))]) ∧ Below w.heap.size w w' := by
  have u0 : U 0 := by unfold U; omega
  have hs := sub_any 0 0 h l u0 u0 u v
  rw [num_zero, Nat.zero_add] at hs
  have HS := Lib.hid hs
  clear hs
  generalize 340282366920938463463374607431768211456 - num h l = n at *
  go_enter Tryd.func79, Tryd.ntmps79
  refine wp_shut ?_
  go_wp2_with fail
  refine (HS.out _).mono ?_
  rintro e w1 ⟨rfl, hb⟩
  obtain ⟨hc, hf⟩ := bcell hb
  have hz : w.heap.size + 1 < w1.heap.size := by have := hb.size; simp at this; omega
  have HB := Lib.hid hb
  clear hb
  go_wp2
  refine shut_ret (v := .agg #[.int .u64 (hi n), .int .u64 (lo n)]) (by simp [results, Tryd.results79, go_sem, hc, hz]) rfl ⟨rfl, ?_⟩
  have hB1 : Below w.heap.size w w1 := (below2 w _ _).trans (HB.out.mono (by simp; omega))
  go_grown
theorem sgn_bd (l : Nat) : -9223372036854775808 ≤ sgn l ∧ sgn l < 9223372036854775808 := by unfold sgn; rw [IntKind.wrap_i64]; omega
set_option maxHeartbeats 1000000 in
set_option maxRecDepth 100000 in
theorem int_any (h l : Nat) (u : U h) (v : U l) (w : World) :
    Calls Tryd.prog 71 #[.agg #[.int .u64 h, .int .u64 l]] w fun e w' => e = .returned (.tuple #[.int .i64 (if intOk h l then sgn l else 0), .int .i64 (if intOk h l then 0 else 8)]) ∧ Below w.heap.size w w' := by
  have hL : ofL (sgn l) = l := by unfold ofL sgn; rw [IntKind.wrap_i64]; unfold U at v; omega
  have hbd := sgn_bd l
  obtain ⟨x, hx⟩ : ∃ x, Hid (sgn l = x) := ⟨_, rfl⟩
  have hw : IntKind.i64.wrap (l : Int) = x := hx.out
  have ho := of_any x (by rw [← hx.out]; exact hbd)
  rw [show ofL x = l by rw [← hx.out]; exact hL] at ho
  have HO := Lib.hid ho
  clear ho hL hbd
  have hI : intOk h l = (ofH x == h) := by unfold intOk; rw [hx.out]
  rw [hI, hx.out]
  clear hI
  generalize ofH x = y at *
  obtain ⟨W0, hW0⟩ : ∃ W0, W0 = w.alloc (Obj.cells #[Value.int IntKind.u64 ↑h, Value.int IntKind.u64 ↑l] 66) := ⟨_, rfl⟩
  have c1 : W0.cell? ⟨w.heap.size, 0, none⟩ = some (.int .u64 h) := by rw [hW0]; simp [go_sem]
  have c2 : W0.cell? ⟨w.heap.size, 1, none⟩ = some (.int .u64 l) := by rw [hW0]; simp [go_sem]
  have hs0 : w.heap.size < W0.heap.size := by rw [hW0]; simp
  have hB0 : Below w.heap.size w W0 := by rw [hW0]; exact (Below.refl _ _).alloc (Nat.le_refl _) _
  have HB0 := Lib.hid hB0
  have HW0 := Lib.hid hW0
  clear hB0 hW0
  by_cases hy : y = h
  · subst hy
    have hyy : (y == y) = true := by simp
    go_enter Tryd.func71, Tryd.ntmps71
    go_wp2_with fail
    rw [← HW0.out]
    go_region_held3 (fun w' => Below W0.heap.size W0 w' ∧ w'.cell? ⟨w.heap.size, 0, none⟩ = some (.int .u64 y) ∧ w'.cell? ⟨w.heap.size, 1, none⟩ = some (.int .u64 l))
    (first
      | ((try go_split_ands); refine ⟨(Below.refl _ _).drew, ?_, ?_⟩ <;> first | assumption | (rw [World.cell?_drew]; assumption))
      | ((try go_split_ands); refine ⟨keepS (W0 := W0) ?_ hb1, cellS (W0 := W0) ?_ hb1 ?_ ?_, cellS (W0 := W0) ?_ hb1 ?_ ?_⟩ <;> first | assumption | omega)
      | ((try go_split_ands); refine ⟨keepA (W0 := W0) ?_ _, cellA (W0 := W0) ?_ _ ?_ ?_, cellA (W0 := W0) ?_ _ ?_ ?_⟩ <;> first | assumption | omega)
      | ((try go_split_ands); refine ⟨keepAd (W0 := W0) ?_ _, cellAd (W0 := W0) ?_ _ ?_ ?_, cellAd (W0 := W0) ?_ _ ?_ ?_⟩ <;> first | assumption | omega | exact Below.refl _ _))
    (first | (go_at_call 70; refine (HO.out _).mono ?_; rintro e w1 ⟨rfl, hb1⟩))
    go_split_ands
    have HB1 := Lib.hid (HB0.out.trans (((Below.refl W0.heap.size W0).drew.trans hb1).mono (by omega)))
    go_wp2
    go_ret2
    exact ⟨by simp, HB1.out⟩
  · have hyy : (y == h) = false := by simpa using hy
    have hyc : ((y : Int) == (h : Int)) = false := by rw [beq_eq_false_iff_ne]; omega
    go_enter Tryd.func71, Tryd.ntmps71
    go_wp2_with fail
    rw [← HW0.out]
    go_region_held3 (fun w' => Below W0.heap.size W0 w' ∧ w'.cell? ⟨w.heap.size, 0, none⟩ = some (.int .u64 h) ∧ w'.cell? ⟨w.heap.size, 1, none⟩ = some (.int .u64 l))
    (first
      | ((try go_split_ands); refine ⟨(Below.refl _ _).drew, ?_, ?_⟩ <;> first | assumption | (rw [World.cell?_drew]; assumption))
      | ((try go_split_ands); refine ⟨keepS (W0 := W0) ?_ hb1, cellS (W0 := W0) ?_ hb1 ?_ ?_, cellS (W0 := W0) ?_ hb1 ?_ ?_⟩ <;> first | assumption | omega)
      | ((try go_split_ands); refine ⟨keepA (W0 := W0) ?_ _, cellA (W0 := W0) ?_ _ ?_ ?_, cellA (W0 := W0) ?_ _ ?_ ?_⟩ <;> first | assumption | omega)
      | ((try go_split_ands); refine ⟨keepAd (W0 := W0) ?_ _, cellAd (W0 := W0) ?_ _ ?_ ?_, cellAd (W0 := W0) ?_ _ ?_ ?_⟩ <;> first | assumption | omega | exact Below.refl _ _))
    (first | (go_at_call 70; refine (HO.out _).mono ?_; rintro e w1 ⟨rfl, hb1⟩))
    go_split_ands
    have HB1 := Lib.hid (HB0.out.trans (((Below.refl W0.heap.size W0).drew.trans hb1).mono (by omega)))
    go_wp2
    go_ret2
    exact ⟨by simp, HB1.out⟩
end Go.Proofs.YtoopbgpoelpjfaaDoor
namespace Go.Proofs.YtoopbgpoelpjfaaDoor
set_option linter.unusedVariables false
open Go.ChangeShapes Go.WideShapes Go.ChangeAt Go.RowKit
theorem ret_two {k1 k2 : IntKind} {a b c d : Int} (h1 : a = b) (h2 : c = d) : Ending.returned (.tuple #[.int k1 a, .int k2 c]) = Ending.returned (.tuple #[.int k1 b, .int k2 d]) := by rw [h1, h2]
theorem wrap_nat (a : Nat) (h : a < 18446744073709551616) : IntKind.u64.wrap (a : Int) = (a : Int) := by rw [IntKind.wrap_u64]; omega
theorem and_lo32 (a : Nat) (h : U a) : bits .and .u64 (a : Int) 4294967295 = ((a % 4294967296 : Nat) : Int) := Go.Proofs.Mul64.maskN a h
set_option maxHeartbeats 1000000 in
set_option maxRecDepth 100000 in
theorem div64_zero (l y : Nat) (hl : U l) (hy : 0 < y) (w : World) :
    Calls Tryd.prog 80 #[.int .u64 0, .int .u64 l, .int .u64 y] w fun e w' => e = .returned (.tuple #[.int .u64 (l / y : Nat), .int .u64 (l % y : Nat)]) ∧ Below w.heap.size w w' := by
  have hy0 : ((y : Int) == 0) = false := by rw [beq_eq_false_iff_ne]; omega
  have hy1 : decide ((y : Int) ≤ 0) = false := by rw [decide_eq_false_iff_not]; omega
  have hp : (0 : Int) < (y : Int) := by omega
  go_enter Tryd.func80, Tryd.ntmps80
  go_wp2_with fail
  go_quiet (fail)
  go_wp2
  go_ret2
  have e : IntKind.u64.wrap ((l : Int) / (y : Int)) = ((l / y : Nat) : Int) := by
    have h1 : ((l : Int) / (y : Int)) = ((l / y : Nat) : Int) := rfl
    rw [h1]; exact wrap_nat _ (Nat.lt_of_le_of_lt (Nat.div_le_self l y) hl)
  exact ⟨by rw [e]; rfl, (Go.Joins.below_draws _ _ _)⟩
set_option maxHeartbeats 8000000 in
set_option maxRecDepth 100000 in
theorem div64_any (h l y : Nat) (hh : U h) (hl : U l) (hy : h < y) (hy2 : U y) (h0 : 0 < h) (w : World) :
    Calls Tryd.prog 80 #[.int .u64 h, .int .u64 l, .int .u64 y] w fun e w' => e = .returned (.tuple #[.int .u64 (num h l / y : Nat), .int .u64 (num h l % y : Nat)]) ∧ Below w.heap.size w w' := by
  have hy0 : ((y : Int) == 0) = false := by rw [beq_eq_false_iff_ne]; omega
  have hy1 : decide (y ≤ h) = false := by rw [decide_eq_false_iff_not]; omega
  have hh0 : ((h : Int) == 0) = false := by rw [beq_eq_false_iff_ne]; omega
  have HY := Lib.hid hy
  clear hy
  go_enter Tryd.func80, Tryd.ntmps80
  go_wp2_with fail
  refine (Tryd.bits_LeadingZeros64 y _ (by omega) (by unfold U at hy2; omega)).mono ?_
  rintro e w1 ⟨rfl, rfl⟩
  obtain ⟨b1, b2, nd⟩ := ND.of y (by have := HY.out; omega) hy2
  obtain ⟨s, Es⟩ : ∃ s, Hid (s = 64 - Lib.bitLen y) := ⟨_, rfl⟩
  rw [← Es.out] at nd
  have f1 : IntKind.u64.wrap (64 - (Lib.bitLen y : Int)) = (s : Int) := by rw [IntKind.wrap_u64, Es.out]; omega
  have f1' : ((y : Int)).toNat = y := Int.toNat_natCast y
  have fm : min s 64 = s := Nat.min_eq_left (by have := nd.sle; omega)
  obtain ⟨Y, EY⟩ : ∃ Y, Hid (Y = y * 2 ^ s) := ⟨_, rfl⟩
  rw [← EY.out] at nd
  obtain ⟨n1a, n2a, n3a, n4a⟩ := nd.num hl HY.out
  have f2 : IntKind.u64.wrap ((y : Int) * 2 ^ s) = (Y : Int) := by
    have e : ((y : Int) * 2 ^ s) = (Y : Int) := by rw [EY.out, Int.natCast_mul, Int.natCast_pow]; rfl
    rw [e]; exact wrap_nat _ nd.hi
  obtain ⟨y1, Ey1⟩ : ∃ y1, Hid (y1 = Y / 4294967296) := ⟨_, rfl⟩
  have f3 : ((Y : Int) / 4294967296) = (y1 : Int) := by rw [Ey1.out]; rfl
  obtain ⟨y0, Ey0⟩ : ∃ y0, Hid (y0 = Y % 4294967296) := ⟨_, rfl⟩
  have f4 : bits .and .u64 (Y : Int) 4294967295 = (y0 : Int) := by rw [and_lo32 Y nd.hi, Ey0.out]
  obtain ⟨hs, Ehs⟩ : ∃ hs, Hid (hs = h * 2 ^ s) := ⟨_, rfl⟩
  have f5 : IntKind.u64.wrap ((h : Int) * 2 ^ s) = (hs : Int) := by
    have e : ((h : Int) * 2 ^ s) = (hs : Int) := by rw [Ehs.out, Int.natCast_mul, Int.natCast_pow]; rfl
    rw [e]; exact wrap_nat _ (by rw [Ehs.out]; exact n1a)
  obtain ⟨s2, Es2⟩ : ∃ s2, Hid (s2 = 64 - s) := ⟨_, rfl⟩
  have f6 : IntKind.u64.wrap (64 - (s : Int)) = (s2 : Int) := by rw [IntKind.wrap_u64, Es2.out]; have := nd.sle; omega
  have fm2 : min s2 64 = s2 := Nat.min_eq_left (by have := Es2.out; omega)
  obtain ⟨ls, Els⟩ : ∃ ls, Hid (ls = l / 2 ^ s2) := ⟨_, rfl⟩
  have f7 : ((l : Int) / 2 ^ s2) = (ls : Int) := by rw [Els.out, Int.natCast_ediv, Int.natCast_pow]; rfl
  obtain ⟨u, Eu⟩ : ∃ u, Hid (u = hs + ls) := ⟨_, rfl⟩
  have hu : u = h * 2 ^ s + l / 2 ^ (64 - s) := by rw [Eu.out, Ehs.out, Els.out, Es2.out]
  have f8 : bits .or .u64 (hs : Int) (ls : Int) = (u : Int) := by
    have a1 : hs < 18446744073709551616 := by rw [Ehs.out]; exact n1a
    have a2 : ls < 18446744073709551616 := by rw [Els.out]; exact Nat.lt_of_le_of_lt (Nat.div_le_self _ _) hl
    rw [u64_or_nat _ _ a1 a2, hu, Ehs.out, Els.out, Es2.out, n2a]
  obtain ⟨lt, Elt⟩ : ∃ lt, Hid (lt = l * 2 ^ s % 18446744073709551616) := ⟨_, rfl⟩
  have f9 : IntKind.u64.wrap ((l : Int) * 2 ^ s) = (lt : Int) := by
    have e : ((l : Int) * 2 ^ s) = ((l * 2 ^ s : Nat) : Int) := by rw [Int.natCast_mul, Int.natCast_pow]; rfl
    rw [e, IntKind.wrap_u64, Elt.out]; rfl
  obtain ⟨m1, Em1⟩ : ∃ m1, Hid (m1 = lt / 4294967296) := ⟨_, rfl⟩
  have f10 : ((lt : Int) / 4294967296) = (m1 : Int) := by rw [Em1.out]; rfl
  obtain ⟨m0, Em0⟩ : ∃ m0, Hid (m0 = lt % 4294967296) := ⟨_, rfl⟩
  have hlt : lt < 18446744073709551616 := by rw [Elt.out]; exact Nat.mod_lt _ (by omega)
  have f11 : bits .and .u64 (lt : Int) 4294967295 = (m0 : Int) := by rw [and_lo32 lt hlt, Em0.out]
  have hN := n4a
  rw [← hu, ← Elt.out] at hN
  rw [← hu] at n3a
  have kd : KD u Y y1 y0 m1 := by
    have a1 := nd.lo; have a2 := nd.hi; have a3 := Ey1.out; have a4 := Ey0.out; have a5 := Em1.out
    exact ⟨by omega, by omega, ⟨by omega, by omega⟩, n3a, by omega⟩
  have kd2 : KD (kr u Y m1) Y y1 y0 m0 := ⟨kd.y, kd.y0, kd.y1, kr_lt kd, by rw [Em0.out]; omega⟩
  have HN : Hid (num h l * 2 ^ s = (kq u Y m1 * 4294967296 + kq (kr u Y m1) Y m0) * Y + kr (kr u Y m1) Y m0) := by
    rw [← two_digits]; show _ = _; rw [hN]; congr 1; rw [Em1.out, Em0.out]; omega
  have KD1 := Lib.hid kd
  have KD2 := Lib.hid kd2
  have ND1 := Lib.hid nd
  have hy1p : (0 : Int) < (y1 : Int) := by have := kd.y1; omega
  have hy1z : ((y1 : Int) == 0) = false := by rw [beq_eq_false_iff_ne]; omega
  obtain ⟨i1, i2⟩ := KI.start kd
  obtain ⟨q, Eq⟩ : ∃ q, Hid (q = u / y1) := ⟨_, rfl⟩
  have huU : u < 18446744073709551616 := Nat.lt_trans kd.u nd.hi
  have f12 : IntKind.u64.wrap ((u : Int) / (y1 : Int)) = (q : Int) := by
    have e : ((u : Int) / (y1 : Int)) = (q : Int) := by rw [Eq.out]; rfl
    rw [e]; exact wrap_nat _ (by rw [Eq.out]; exact Nat.lt_of_le_of_lt (Nat.div_le_self _ _) huU)
  obtain ⟨p, Ep⟩ : ∃ p, Hid (p = q * y1) := ⟨_, rfl⟩
  have hpu : p + u % y1 = u := by rw [Ep.out, Eq.out, Nat.mul_comm]; exact Nat.div_add_mod _ _
  have f13 : IntKind.u64.wrap ((q : Int) * (y1 : Int)) = (p : Int) := by
    have e : ((q : Int) * (y1 : Int)) = (p : Int) := by rw [Ep.out, Int.natCast_mul]
    rw [e]; exact wrap_nat _ (by omega)
  obtain ⟨r, Er⟩ : ∃ r, Hid (r = u % y1) := ⟨_, rfl⟩
  have f14 : IntKind.u64.wrap ((u : Int) - (p : Int)) = (r : Int) := by rw [IntKind.wrap_u64, Er.out]; omega
  obtain ⟨k1, Ek1⟩ : ∃ k1, Hid (k1 = kq u Y m1) := ⟨_, rfl⟩
  obtain ⟨v, Ev⟩ : ∃ v, Hid (v = kr u Y m1) := ⟨_, rfl⟩
  have hk1 : k1 < 4294967296 := by rw [Ek1.out]; exact kq_lt kd
  have hv : v < Y := by rw [Ev.out]; exact kr_lt kd
  have hYl := nd.hi
  have hm1 := kd.n
  have hm0 := kd2.n
  have hqr : u * 4294967296 + m1 = k1 * Y + v := by rw [Ek1.out, Ev.out]; exact kqr u Y m1
  obtain ⟨a1, Ea1⟩ : ∃ a1, Hid (a1 = u * 4294967296 % 18446744073709551616) := ⟨_, rfl⟩
  have k11 : IntKind.u64.wrap ((u : Int) * 4294967296) = (a1 : Int) := by rw [IntKind.wrap_u64, Ea1.out]; omega
  obtain ⟨a2, Ea2⟩ : ∃ a2, Hid (a2 = (a1 + m1) % 18446744073709551616) := ⟨_, rfl⟩
  have k12 : IntKind.u64.wrap ((a1 : Int) + (m1 : Int)) = (a2 : Int) := by rw [IntKind.wrap_u64, Ea2.out]; omega
  obtain ⟨a3, Ea3⟩ : ∃ a3, Hid (a3 = k1 * Y % 18446744073709551616) := ⟨_, rfl⟩
  have k13 : IntKind.u64.wrap ((k1 : Int) * (Y : Int)) = (a3 : Int) := by
    have e : ((k1 : Int) * (Y : Int)) = ((k1 * Y : Nat) : Int) := by rw [Int.natCast_mul]
    rw [e, IntKind.wrap_u64, Ea3.out]; omega
  have k14 : IntKind.u64.wrap ((a2 : Int) - (a3 : Int)) = (v : Int) := by
    have h1 := Ea1.out; have h2 := Ea2.out; have h3 := Ea3.out
    generalize k1 * Y = PP at *
    rw [IntKind.wrap_u64]; omega
  obtain ⟨q2, Eq2⟩ : ∃ q2, Hid (q2 = v / y1) := ⟨_, rfl⟩
  have k15 : IntKind.u64.wrap ((v : Int) / (y1 : Int)) = (q2 : Int) := by
    have e : ((v : Int) / (y1 : Int)) = (q2 : Int) := by rw [Eq2.out]; rfl
    rw [e]; exact wrap_nat _ (by rw [Eq2.out]; exact Nat.lt_of_le_of_lt (Nat.div_le_self _ _) (Nat.lt_trans hv hYl))
  obtain ⟨p2, Ep2⟩ : ∃ p2, Hid (p2 = q2 * y1) := ⟨_, rfl⟩
  have hpu2 : p2 + v % y1 = v := by rw [Ep2.out, Eq2.out, Nat.mul_comm]; exact Nat.div_add_mod _ _
  have k16 : IntKind.u64.wrap ((q2 : Int) * (y1 : Int)) = (p2 : Int) := by
    have e : ((q2 : Int) * (y1 : Int)) = (p2 : Int) := by rw [Ep2.out, Int.natCast_mul]
    rw [e]; exact wrap_nat _ (by omega)
  obtain ⟨r2, Er2⟩ : ∃ r2, Hid (r2 = v % y1) := ⟨_, rfl⟩
  have k17 : IntKind.u64.wrap ((v : Int) - (p2 : Int)) = (r2 : Int) := by rw [IntKind.wrap_u64, Er2.out]; omega
  obtain ⟨k0, Ek0⟩ : ∃ k0, Hid (k0 = kq v Y m0) := ⟨_, rfl⟩
  obtain ⟨R, ER⟩ : ∃ R, Hid (R = kr v Y m0) := ⟨_, rfl⟩
  rw [← Ev.out] at kd2
  have hk0 : k0 < 4294967296 := by rw [Ek0.out]; exact kq_lt kd2
  have hR : R < Y := by rw [ER.out]; exact kr_lt kd2
  have hqr2 : v * 4294967296 + m0 = k0 * Y + R := by rw [Ek0.out, ER.out]; exact kqr v Y m0
  obtain ⟨b1', Eb1⟩ : ∃ b1, Hid (b1 = v * 4294967296 % 18446744073709551616) := ⟨_, rfl⟩
  have k21 : IntKind.u64.wrap ((v : Int) * 4294967296) = (b1' : Int) := by rw [IntKind.wrap_u64, Eb1.out]; omega
  obtain ⟨b2', Eb2⟩ : ∃ b2, Hid (b2 = (b1' + m0) % 18446744073709551616) := ⟨_, rfl⟩
  have k22 : IntKind.u64.wrap ((b1' : Int) + (m0 : Int)) = (b2' : Int) := by rw [IntKind.wrap_u64, Eb2.out]; omega
  obtain ⟨b3, Eb3⟩ : ∃ b3, Hid (b3 = k0 * Y % 18446744073709551616) := ⟨_, rfl⟩
  have k23 : IntKind.u64.wrap ((k0 : Int) * (Y : Int)) = (b3 : Int) := by
    have e : ((k0 : Int) * (Y : Int)) = ((k0 * Y : Nat) : Int) := by rw [Int.natCast_mul]
    rw [e, IntKind.wrap_u64, Eb3.out]; omega
  have k24 : IntKind.u64.wrap ((b2' : Int) - (b3 : Int)) = (R : Int) := by
    have h1 := Eb1.out; have h2 := Eb2.out; have h3 := Eb3.out
    generalize k0 * Y = PP at *
    rw [IntKind.wrap_u64]; omega
  obtain ⟨F, EF⟩ : ∃ F, Hid (R / 2 ^ s = F) := ⟨_, rfl⟩
  have k25 : ((R : Int) / 2 ^ s) = (F : Int) := by rw [← EF.out, Int.natCast_ediv, Int.natCast_pow]; rfl
  obtain ⟨c1, Ec1⟩ : ∃ c1, Hid (c1 = k1 * 4294967296) := ⟨_, rfl⟩
  have k26 : IntKind.u64.wrap ((k1 : Int) * 4294967296) = (c1 : Int) := by rw [IntKind.wrap_u64, Ec1.out]; omega
  obtain ⟨Q, EQ⟩ : ∃ Q, Hid (k1 * 4294967296 + k0 = Q) := ⟨_, rfl⟩
  have k27 : IntKind.u64.wrap ((c1 : Int) + (k0 : Int)) = (Q : Int) := by rw [IntKind.wrap_u64, ← EQ.out, Ec1.out]; omega
  have HS1 := Lib.hid (show KI u Y y1 m1 q r ∧ r < 4294967296 by rw [Eq.out, Er.out]; exact ⟨i1, i2⟩)
  obtain ⟨l1, l2⟩ := KI.start kd2
  have HS2 := Lib.hid (show KI v Y y1 m0 q2 r2 ∧ r2 < 4294967296 by rw [Eq2.out, Er2.out]; exact ⟨l1, l2⟩)
  replace KD2 := Lib.hid kd2
  clear hk1 hv hYl hm1 hm0 hqr hpu2 hk0 hR hqr2 l1 l2
  clear n1a n2a n3a n4a hu hlt hN kd kd2 i1 i2 huU hpu nd b1 b2 hl hh h0 hy2
  go_wp2
  go_loop [15, 16] (fun x15 x16 => ∃ qh rh : Nat, x15 = .int .u64 qh ∧ x16 = .int .u64 rh ∧ Hid (KI u Y y1 m1 qh rh ∧ rh < 4294967296)) (fun x15 _ => (intOf x15).toNat)
  case atStart => exact ⟨q, r, rfl, rfl, HS1⟩
  case round =>
    obtain ⟨qh, rh, rfl, rfl, HI⟩ := hrel
    have hI := HI.out
    by_cases hA : 4294967296 ≤ qh
    · have g1 : decide ((4294967296 : Int) ≤ (qh : Int)) = true := by rw [decide_eq_true_eq]; omega
      obtain ⟨j1, j2, j3⟩ := KI.step KD1.out hI.1 (Or.inl hA)
      obtain ⟨q', Eq'⟩ : ∃ q', Hid (q' = qh - 1) := ⟨_, rfl⟩
      obtain ⟨r', Er'⟩ : ∃ r', Hid (r' = rh + y1) := ⟨_, rfl⟩
      have hy1b := KD1.out.y1.2
      have hqb := hI.1.hi
      have g3 : IntKind.u64.wrap ((qh : Int) - 1) = (q' : Int) := by rw [IntKind.wrap_u64, Eq'.out]; omega
      have g4 : IntKind.u64.wrap ((rh : Int) + (y1 : Int)) = (r' : Int) := by rw [IntKind.wrap_u64, Er'.out]; have := hI.2; omega
      rw [← Eq'.out, ← Er'.out] at j3
      rw [← Eq'.out] at j2
      by_cases hB : 4294967296 ≤ r'
      · have g5 : decide ((4294967296 : Int) ≤ (r' : Int)) = true := by rw [decide_eq_true_eq]; omega
        obtain rfl : k1 = q' := by rw [Ek1.out]; exact (KI.over KD1.out j3 j2 hB).symm
        clear j1 j2 j3 hy1b hqb hB hI hA
        go_wp2
        go_loop [18, 16] (fun x15 x16 => ∃ qh rh : Nat, x15 = .int .u64 qh ∧ x16 = .int .u64 rh ∧ Hid (KI v Y y1 m0 qh rh ∧ rh < 4294967296)) (fun x15 _ => (intOf x15).toNat)
        case atStart => exact ⟨q2, r2, rfl, rfl, HS2⟩
        case round =>
          obtain ⟨qh, rh, rfl, rfl, HI⟩ := hrel
          have hI := HI.out
          by_cases hA : 4294967296 ≤ qh
          · have g1 : decide ((4294967296 : Int) ≤ (qh : Int)) = true := by rw [decide_eq_true_eq]; omega
            obtain ⟨j1, j2, j3⟩ := KI.step KD2.out hI.1 (Or.inl hA)
            obtain ⟨q', Eq'⟩ : ∃ q', Hid (q' = qh - 1) := ⟨_, rfl⟩
            obtain ⟨r', Er'⟩ : ∃ r', Hid (r' = rh + y1) := ⟨_, rfl⟩
            have hy1b := KD2.out.y1.2
            have hqb := hI.1.hi
            have g3 : IntKind.u64.wrap ((qh : Int) - 1) = (q' : Int) := by rw [IntKind.wrap_u64, Eq'.out]; omega
            have g4 : IntKind.u64.wrap ((rh : Int) + (y1 : Int)) = (r' : Int) := by rw [IntKind.wrap_u64, Er'.out]; have := hI.2; omega
            rw [← Eq'.out, ← Er'.out] at j3
            rw [← Eq'.out] at j2
            by_cases hB : 4294967296 ≤ r'
            · have g5 : decide ((4294967296 : Int) ≤ (r' : Int)) = true := by rw [decide_eq_true_eq]; omega
              obtain rfl : k0 = q' := by rw [Ek0.out]; exact (KI.over KD2.out j3 j2 hB).symm
              clear j1 j2 j3 hy1b hqb hB hI hA
              go_wp2
              go_ret2
              have hfin := shift_div (num h l) y s (k1 * 4294967296 + k0) R (by rw [HN.out, ← Ek1.out, ← Ev.out, ← Ek0.out, ← ER.out, ← EY.out]) (by rw [ER.out, ← EY.out]; exact kr_lt KD2.out)
              exact ⟨ret_two (congrArg Nat.cast (by rw [hfin.1, EQ.out])) (by rw [← Int.natCast_emod, hfin.2, EF.out]), Below.refl _ _⟩
            · have g5 : decide ((4294967296 : Int) ≤ (r' : Int)) = false := by rw [decide_eq_false_iff_not]; omega
              have HJ := Lib.hid (show KI v Y y1 m0 q' r' ∧ r' < 4294967296 from ⟨j3, by omega⟩)
              have HQ : Hid (q' < qh) := by show _ < _; have := Eq'.out; omega
              clear j1 j2 j3 hy1b hqb hB hI hA
              go_wp2
              go_round
              case rel => exact ⟨q', r', rfl, rfl, HJ⟩
              case measure => simp [intOf]; exact HQ.out
          · have g1 : decide ((4294967296 : Int) ≤ (qh : Int)) = false := by rw [decide_eq_false_iff_not]; omega
            obtain ⟨P, EP⟩ : ∃ P, Hid (P = qh * y0) := ⟨_, rfl⟩
            have hP : P < 18446744073709551616 := by
              rw [EP.out]; have h1 := KD2.out.y0
              have h2 : qh * y0 ≤ 4294967295 * 4294967295 := Nat.mul_le_mul (by omega) (by omega)
              omega
            have g6 : IntKind.u64.wrap ((qh : Int) * (y0 : Int)) = (P : Int) := by
              have e : ((qh : Int) * (y0 : Int)) = (P : Int) := by rw [EP.out, Int.natCast_mul]
              rw [e]; exact wrap_nat _ hP
            obtain ⟨R1, ER1⟩ : ∃ R1, Hid (R1 = 4294967296 * rh) := ⟨_, rfl⟩
            have hrh := hI.2
            have hmb := KD2.out.n
            have g7 : IntKind.u64.wrap (4294967296 * (rh : Int)) = (R1 : Int) := by rw [IntKind.wrap_u64, ER1.out]; omega
            obtain ⟨R2, ER2⟩ : ∃ R2, Hid (R2 = R1 + m0) := ⟨_, rfl⟩
            have g8 : IntKind.u64.wrap ((R1 : Int) + (m0 : Int)) = (R2 : Int) := by rw [IntKind.wrap_u64, ER2.out, ER1.out]; omega
            have hR2 : R2 = 4294967296 * rh + m0 := by rw [ER2.out, ER1.out]
            by_cases hlt2 : R2 < P
            · have g9 : decide (R2 < P) = true := by rw [decide_eq_true_eq]; exact hlt2
              have hC : 4294967296 * rh + m0 < qh * y0 := by rw [← hR2, ← EP.out]; exact hlt2
              clear hP hrh hmb hR2 hlt2
              obtain ⟨j1, j2, j3⟩ := KI.step KD2.out hI.1 (Or.inr hC)
              obtain ⟨q', Eq'⟩ : ∃ q', Hid (q' = qh - 1) := ⟨_, rfl⟩
              obtain ⟨r', Er'⟩ : ∃ r', Hid (r' = rh + y1) := ⟨_, rfl⟩
              have hy1b := KD2.out.y1.2
              have hqb := hI.1.hi
              have g3 : IntKind.u64.wrap ((qh : Int) - 1) = (q' : Int) := by rw [IntKind.wrap_u64, Eq'.out]; omega
              have g4 : IntKind.u64.wrap ((rh : Int) + (y1 : Int)) = (r' : Int) := by rw [IntKind.wrap_u64, Er'.out]; have := hI.2; omega
              rw [← Eq'.out, ← Er'.out] at j3
              rw [← Eq'.out] at j2
              by_cases hB : 4294967296 ≤ r'
              · have g5 : decide ((4294967296 : Int) ≤ (r' : Int)) = true := by rw [decide_eq_true_eq]; omega
                obtain rfl : k0 = q' := by rw [Ek0.out]; exact (KI.over KD2.out j3 j2 hB).symm
                clear j1 j2 j3 hy1b hqb hB hI hA hC
                go_wp2
                go_ret2
                have hfin := shift_div (num h l) y s (k1 * 4294967296 + k0) R (by rw [HN.out, ← Ek1.out, ← Ev.out, ← Ek0.out, ← ER.out, ← EY.out]) (by rw [ER.out, ← EY.out]; exact kr_lt KD2.out)
                exact ⟨ret_two (congrArg Nat.cast (by rw [hfin.1, EQ.out])) (by rw [← Int.natCast_emod, hfin.2, EF.out]), Below.refl _ _⟩
              · have g5 : decide ((4294967296 : Int) ≤ (r' : Int)) = false := by rw [decide_eq_false_iff_not]; omega
                have HJ := Lib.hid (show KI v Y y1 m0 q' r' ∧ r' < 4294967296 from ⟨j3, by omega⟩)
                have HQ : Hid (q' < qh) := by show _ < _; have := Eq'.out; omega
                clear j1 j2 j3 hy1b hqb hB hI hA hC
                go_wp2
                go_round
                case rel => exact ⟨q', r', rfl, rfl, HJ⟩
                case measure => simp [intOf]; exact HQ.out
            · have g9 : decide (R2 < P) = false := by rw [decide_eq_false_iff_not]; exact hlt2
              obtain rfl : k0 = qh := by rw [Ek0.out]; exact (KI.done KD2.out hI.1 (by rw [← hR2, ← EP.out]; omega)).symm
              clear hP hrh hmb hR2 hlt2 hI hA
              go_wp2
              go_ret2
              have hfin := shift_div (num h l) y s (k1 * 4294967296 + k0) R (by rw [HN.out, ← Ek1.out, ← Ev.out, ← Ek0.out, ← ER.out, ← EY.out]) (by rw [ER.out, ← EY.out]; exact kr_lt KD2.out)
              exact ⟨ret_two (congrArg Nat.cast (by rw [hfin.1, EQ.out])) (by rw [← Int.natCast_emod, hfin.2, EF.out]), Below.refl _ _⟩
      · have g5 : decide ((4294967296 : Int) ≤ (r' : Int)) = false := by rw [decide_eq_false_iff_not]; omega
        have HJ := Lib.hid (show KI u Y y1 m1 q' r' ∧ r' < 4294967296 from ⟨j3, by omega⟩)
        have HQ : Hid (q' < qh) := by show _ < _; have := Eq'.out; omega
        clear j1 j2 j3 hy1b hqb hB hI hA
        go_wp2
        go_round
        case rel => exact ⟨q', r', rfl, rfl, HJ⟩
        case measure => simp [intOf]; exact HQ.out
    · have g1 : decide ((4294967296 : Int) ≤ (qh : Int)) = false := by rw [decide_eq_false_iff_not]; omega
      obtain ⟨P, EP⟩ : ∃ P, Hid (P = qh * y0) := ⟨_, rfl⟩
      have hP : P < 18446744073709551616 := by
        rw [EP.out]; have h1 := KD1.out.y0
        have h2 : qh * y0 ≤ 4294967295 * 4294967295 := Nat.mul_le_mul (by omega) (by omega)
        omega
      have g6 : IntKind.u64.wrap ((qh : Int) * (y0 : Int)) = (P : Int) := by
        have e : ((qh : Int) * (y0 : Int)) = (P : Int) := by rw [EP.out, Int.natCast_mul]
        rw [e]; exact wrap_nat _ hP
      obtain ⟨R1, ER1⟩ : ∃ R1, Hid (R1 = 4294967296 * rh) := ⟨_, rfl⟩
      have hrh := hI.2
      have hmb := KD1.out.n
      have g7 : IntKind.u64.wrap (4294967296 * (rh : Int)) = (R1 : Int) := by rw [IntKind.wrap_u64, ER1.out]; omega
      obtain ⟨R2, ER2⟩ : ∃ R2, Hid (R2 = R1 + m1) := ⟨_, rfl⟩
      have g8 : IntKind.u64.wrap ((R1 : Int) + (m1 : Int)) = (R2 : Int) := by rw [IntKind.wrap_u64, ER2.out, ER1.out]; omega
      have hR2 : R2 = 4294967296 * rh + m1 := by rw [ER2.out, ER1.out]
      by_cases hlt2 : R2 < P
      · have g9 : decide (R2 < P) = true := by rw [decide_eq_true_eq]; exact hlt2
        have hC : 4294967296 * rh + m1 < qh * y0 := by rw [← hR2, ← EP.out]; exact hlt2
        clear hP hrh hmb hR2 hlt2
        obtain ⟨j1, j2, j3⟩ := KI.step KD1.out hI.1 (Or.inr hC)
        obtain ⟨q', Eq'⟩ : ∃ q', Hid (q' = qh - 1) := ⟨_, rfl⟩
        obtain ⟨r', Er'⟩ : ∃ r', Hid (r' = rh + y1) := ⟨_, rfl⟩
        have hy1b := KD1.out.y1.2
        have hqb := hI.1.hi
        have g3 : IntKind.u64.wrap ((qh : Int) - 1) = (q' : Int) := by rw [IntKind.wrap_u64, Eq'.out]; omega
        have g4 : IntKind.u64.wrap ((rh : Int) + (y1 : Int)) = (r' : Int) := by rw [IntKind.wrap_u64, Er'.out]; have := hI.2; omega
        rw [← Eq'.out, ← Er'.out] at j3
        rw [← Eq'.out] at j2
        by_cases hB : 4294967296 ≤ r'
        · have g5 : decide ((4294967296 : Int) ≤ (r' : Int)) = true := by rw [decide_eq_true_eq]; omega
          obtain rfl : k1 = q' := by rw [Ek1.out]; exact (KI.over KD1.out j3 j2 hB).symm
          clear j1 j2 j3 hy1b hqb hB hI hA hC
          go_wp2
          go_loop [18, 16] (fun x15 x16 => ∃ qh rh : Nat, x15 = .int .u64 qh ∧ x16 = .int .u64 rh ∧ Hid (KI v Y y1 m0 qh rh ∧ rh < 4294967296)) (fun x15 _ => (intOf x15).toNat)
          case atStart => exact ⟨q2, r2, rfl, rfl, HS2⟩
          case round =>
            obtain ⟨qh, rh, rfl, rfl, HI⟩ := hrel
            have hI := HI.out
            by_cases hA : 4294967296 ≤ qh
            · have g1 : decide ((4294967296 : Int) ≤ (qh : Int)) = true := by rw [decide_eq_true_eq]; omega
              obtain ⟨j1, j2, j3⟩ := KI.step KD2.out hI.1 (Or.inl hA)
              obtain ⟨q', Eq'⟩ : ∃ q', Hid (q' = qh - 1) := ⟨_, rfl⟩
              obtain ⟨r', Er'⟩ : ∃ r', Hid (r' = rh + y1) := ⟨_, rfl⟩
              have hy1b := KD2.out.y1.2
              have hqb := hI.1.hi
              have g3 : IntKind.u64.wrap ((qh : Int) - 1) = (q' : Int) := by rw [IntKind.wrap_u64, Eq'.out]; omega
              have g4 : IntKind.u64.wrap ((rh : Int) + (y1 : Int)) = (r' : Int) := by rw [IntKind.wrap_u64, Er'.out]; have := hI.2; omega
              rw [← Eq'.out, ← Er'.out] at j3
              rw [← Eq'.out] at j2
              by_cases hB : 4294967296 ≤ r'
              · have g5 : decide ((4294967296 : Int) ≤ (r' : Int)) = true := by rw [decide_eq_true_eq]; omega
                obtain rfl : k0 = q' := by rw [Ek0.out]; exact (KI.over KD2.out j3 j2 hB).symm
                clear j1 j2 j3 hy1b hqb hB hI hA
                go_wp2
                go_ret2
                have hfin := shift_div (num h l) y s (k1 * 4294967296 + k0) R (by rw [HN.out, ← Ek1.out, ← Ev.out, ← Ek0.out, ← ER.out, ← EY.out]) (by rw [ER.out, ← EY.out]; exact kr_lt KD2.out)
                exact ⟨ret_two (congrArg Nat.cast (by rw [hfin.1, EQ.out])) (by rw [← Int.natCast_emod, hfin.2, EF.out]), Below.refl _ _⟩
              · have g5 : decide ((4294967296 : Int) ≤ (r' : Int)) = false := by rw [decide_eq_false_iff_not]; omega
                have HJ := Lib.hid (show KI v Y y1 m0 q' r' ∧ r' < 4294967296 from ⟨j3, by omega⟩)
                have HQ : Hid (q' < qh) := by show _ < _; have := Eq'.out; omega
                clear j1 j2 j3 hy1b hqb hB hI hA
                go_wp2
                go_round
                case rel => exact ⟨q', r', rfl, rfl, HJ⟩
                case measure => simp [intOf]; exact HQ.out
            · have g1 : decide ((4294967296 : Int) ≤ (qh : Int)) = false := by rw [decide_eq_false_iff_not]; omega
              obtain ⟨P, EP⟩ : ∃ P, Hid (P = qh * y0) := ⟨_, rfl⟩
              have hP : P < 18446744073709551616 := by
                rw [EP.out]; have h1 := KD2.out.y0
                have h2 : qh * y0 ≤ 4294967295 * 4294967295 := Nat.mul_le_mul (by omega) (by omega)
                omega
              have g6 : IntKind.u64.wrap ((qh : Int) * (y0 : Int)) = (P : Int) := by
                have e : ((qh : Int) * (y0 : Int)) = (P : Int) := by rw [EP.out, Int.natCast_mul]
                rw [e]; exact wrap_nat _ hP
              obtain ⟨R1, ER1⟩ : ∃ R1, Hid (R1 = 4294967296 * rh) := ⟨_, rfl⟩
              have hrh := hI.2
              have hmb := KD2.out.n
              have g7 : IntKind.u64.wrap (4294967296 * (rh : Int)) = (R1 : Int) := by rw [IntKind.wrap_u64, ER1.out]; omega
              obtain ⟨R2, ER2⟩ : ∃ R2, Hid (R2 = R1 + m0) := ⟨_, rfl⟩
              have g8 : IntKind.u64.wrap ((R1 : Int) + (m0 : Int)) = (R2 : Int) := by rw [IntKind.wrap_u64, ER2.out, ER1.out]; omega
              have hR2 : R2 = 4294967296 * rh + m0 := by rw [ER2.out, ER1.out]
              by_cases hlt2 : R2 < P
              · have g9 : decide (R2 < P) = true := by rw [decide_eq_true_eq]; exact hlt2
                have hC : 4294967296 * rh + m0 < qh * y0 := by rw [← hR2, ← EP.out]; exact hlt2
                clear hP hrh hmb hR2 hlt2
                obtain ⟨j1, j2, j3⟩ := KI.step KD2.out hI.1 (Or.inr hC)
                obtain ⟨q', Eq'⟩ : ∃ q', Hid (q' = qh - 1) := ⟨_, rfl⟩
                obtain ⟨r', Er'⟩ : ∃ r', Hid (r' = rh + y1) := ⟨_, rfl⟩
                have hy1b := KD2.out.y1.2
                have hqb := hI.1.hi
                have g3 : IntKind.u64.wrap ((qh : Int) - 1) = (q' : Int) := by rw [IntKind.wrap_u64, Eq'.out]; omega
                have g4 : IntKind.u64.wrap ((rh : Int) + (y1 : Int)) = (r' : Int) := by rw [IntKind.wrap_u64, Er'.out]; have := hI.2; omega
                rw [← Eq'.out, ← Er'.out] at j3
                rw [← Eq'.out] at j2
                by_cases hB : 4294967296 ≤ r'
                · have g5 : decide ((4294967296 : Int) ≤ (r' : Int)) = true := by rw [decide_eq_true_eq]; omega
                  obtain rfl : k0 = q' := by rw [Ek0.out]; exact (KI.over KD2.out j3 j2 hB).symm
                  clear j1 j2 j3 hy1b hqb hB hI hA hC
                  go_wp2
                  go_ret2
                  have hfin := shift_div (num h l) y s (k1 * 4294967296 + k0) R (by rw [HN.out, ← Ek1.out, ← Ev.out, ← Ek0.out, ← ER.out, ← EY.out]) (by rw [ER.out, ← EY.out]; exact kr_lt KD2.out)
                  exact ⟨ret_two (congrArg Nat.cast (by rw [hfin.1, EQ.out])) (by rw [← Int.natCast_emod, hfin.2, EF.out]), Below.refl _ _⟩
                · have g5 : decide ((4294967296 : Int) ≤ (r' : Int)) = false := by rw [decide_eq_false_iff_not]; omega
                  have HJ := Lib.hid (show KI v Y y1 m0 q' r' ∧ r' < 4294967296 from ⟨j3, by omega⟩)
                  have HQ : Hid (q' < qh) := by show _ < _; have := Eq'.out; omega
                  clear j1 j2 j3 hy1b hqb hB hI hA hC
                  go_wp2
                  go_round
                  case rel => exact ⟨q', r', rfl, rfl, HJ⟩
                  case measure => simp [intOf]; exact HQ.out
              · have g9 : decide (R2 < P) = false := by rw [decide_eq_false_iff_not]; exact hlt2
                obtain rfl : k0 = qh := by rw [Ek0.out]; exact (KI.done KD2.out hI.1 (by rw [← hR2, ← EP.out]; omega)).symm
                clear hP hrh hmb hR2 hlt2 hI hA
                go_wp2
                go_ret2
                have hfin := shift_div (num h l) y s (k1 * 4294967296 + k0) R (by rw [HN.out, ← Ek1.out, ← Ev.out, ← Ek0.out, ← ER.out, ← EY.out]) (by rw [ER.out, ← EY.out]; exact kr_lt KD2.out)
                exact ⟨ret_two (congrArg Nat.cast (by rw [hfin.1, EQ.out])) (by rw [← Int.natCast_emod, hfin.2, EF.out]), Below.refl _ _⟩
        · have g5 : decide ((4294967296 : Int) ≤ (r' : Int)) = false := by rw [decide_eq_false_iff_not]; omega
          have HJ := Lib.hid (show KI u Y y1 m1 q' r' ∧ r' < 4294967296 from ⟨j3, by omega⟩)
          have HQ : Hid (q' < qh) := by show _ < _; have := Eq'.out; omega
          clear j1 j2 j3 hy1b hqb hB hI hA hC
          go_wp2
          go_round
          case rel => exact ⟨q', r', rfl, rfl, HJ⟩
          case measure => simp [intOf]; exact HQ.out
      · have g9 : decide (R2 < P) = false := by rw [decide_eq_false_iff_not]; exact hlt2
        obtain rfl : k1 = qh := by rw [Ek1.out]; exact (KI.done KD1.out hI.1 (by rw [← hR2, ← EP.out]; omega)).symm
        clear hP hrh hmb hR2 hlt2 hI hA
        go_wp2
        go_loop [18, 16] (fun x15 x16 => ∃ qh rh : Nat, x15 = .int .u64 qh ∧ x16 = .int .u64 rh ∧ Hid (KI v Y y1 m0 qh rh ∧ rh < 4294967296)) (fun x15 _ => (intOf x15).toNat)
        case atStart => exact ⟨q2, r2, rfl, rfl, HS2⟩
        case round =>
          obtain ⟨qh, rh, rfl, rfl, HI⟩ := hrel
          have hI := HI.out
          by_cases hA : 4294967296 ≤ qh
          · have g1 : decide ((4294967296 : Int) ≤ (qh : Int)) = true := by rw [decide_eq_true_eq]; omega
            obtain ⟨j1, j2, j3⟩ := KI.step KD2.out hI.1 (Or.inl hA)
            obtain ⟨q', Eq'⟩ : ∃ q', Hid (q' = qh - 1) := ⟨_, rfl⟩
            obtain ⟨r', Er'⟩ : ∃ r', Hid (r' = rh + y1) := ⟨_, rfl⟩
            have hy1b := KD2.out.y1.2
            have hqb := hI.1.hi
            have g3 : IntKind.u64.wrap ((qh : Int) - 1) = (q' : Int) := by rw [IntKind.wrap_u64, Eq'.out]; omega
            have g4 : IntKind.u64.wrap ((rh : Int) + (y1 : Int)) = (r' : Int) := by rw [IntKind.wrap_u64, Er'.out]; have := hI.2; omega
            rw [← Eq'.out, ← Er'.out] at j3
            rw [← Eq'.out] at j2
            by_cases hB : 4294967296 ≤ r'
            · have g5 : decide ((4294967296 : Int) ≤ (r' : Int)) = true := by rw [decide_eq_true_eq]; omega
              obtain rfl : k0 = q' := by rw [Ek0.out]; exact (KI.over KD2.out j3 j2 hB).symm
              clear j1 j2 j3 hy1b hqb hB hI hA
              go_wp2
              go_ret2
              have hfin := shift_div (num h l) y s (k1 * 4294967296 + k0) R (by rw [HN.out, ← Ek1.out, ← Ev.out, ← Ek0.out, ← ER.out, ← EY.out]) (by rw [ER.out, ← EY.out]; exact kr_lt KD2.out)
              exact ⟨ret_two (congrArg Nat.cast (by rw [hfin.1, EQ.out])) (by rw [← Int.natCast_emod, hfin.2, EF.out]), Below.refl _ _⟩
            · have g5 : decide ((4294967296 : Int) ≤ (r' : Int)) = false := by rw [decide_eq_false_iff_not]; omega
              have HJ := Lib.hid (show KI v Y y1 m0 q' r' ∧ r' < 4294967296 from ⟨j3, by omega⟩)
              have HQ : Hid (q' < qh) := by show _ < _; have := Eq'.out; omega
              clear j1 j2 j3 hy1b hqb hB hI hA
              go_wp2
              go_round
              case rel => exact ⟨q', r', rfl, rfl, HJ⟩
              case measure => simp [intOf]; exact HQ.out
          · have g1 : decide ((4294967296 : Int) ≤ (qh : Int)) = false := by rw [decide_eq_false_iff_not]; omega
            obtain ⟨P, EP⟩ : ∃ P, Hid (P = qh * y0) := ⟨_, rfl⟩
            have hP : P < 18446744073709551616 := by
              rw [EP.out]; have h1 := KD2.out.y0
              have h2 : qh * y0 ≤ 4294967295 * 4294967295 := Nat.mul_le_mul (by omega) (by omega)
              omega
            have g6 : IntKind.u64.wrap ((qh : Int) * (y0 : Int)) = (P : Int) := by
              have e : ((qh : Int) * (y0 : Int)) = (P : Int) := by rw [EP.out, Int.natCast_mul]
              rw [e]; exact wrap_nat _ hP
            obtain ⟨R1, ER1⟩ : ∃ R1, Hid (R1 = 4294967296 * rh) := ⟨_, rfl⟩
            have hrh := hI.2
            have hmb := KD2.out.n
            have g7 : IntKind.u64.wrap (4294967296 * (rh : Int)) = (R1 : Int) := by rw [IntKind.wrap_u64, ER1.out]; omega
            obtain ⟨R2, ER2⟩ : ∃ R2, Hid (R2 = R1 + m0) := ⟨_, rfl⟩
            have g8 : IntKind.u64.wrap ((R1 : Int) + (m0 : Int)) = (R2 : Int) := by rw [IntKind.wrap_u64, ER2.out, ER1.out]; omega
            have hR2 : R2 = 4294967296 * rh + m0 := by rw [ER2.out, ER1.out]
            by_cases hlt2 : R2 < P
            · have g9 : decide (R2 < P) = true := by rw [decide_eq_true_eq]; exact hlt2
              have hC : 4294967296 * rh + m0 < qh * y0 := by rw [← hR2, ← EP.out]; exact hlt2
              clear hP hrh hmb hR2 hlt2
              obtain ⟨j1, j2, j3⟩ := KI.step KD2.out hI.1 (Or.inr hC)
              obtain ⟨q', Eq'⟩ : ∃ q', Hid (q' = qh - 1) := ⟨_, rfl⟩
              obtain ⟨r', Er'⟩ : ∃ r', Hid (r' = rh + y1) := ⟨_, rfl⟩
              have hy1b := KD2.out.y1.2
              have hqb := hI.1.hi
              have g3 : IntKind.u64.wrap ((qh : Int) - 1) = (q' : Int) := by rw [IntKind.wrap_u64, Eq'.out]; omega
              have g4 : IntKind.u64.wrap ((rh : Int) + (y1 : Int)) = (r' : Int) := by rw [IntKind.wrap_u64, Er'.out]; have := hI.2; omega
              rw [← Eq'.out, ← Er'.out] at j3
              rw [← Eq'.out] at j2
              by_cases hB : 4294967296 ≤ r'
              · have g5 : decide ((4294967296 : Int) ≤ (r' : Int)) = true := by rw [decide_eq_true_eq]; omega
                obtain rfl : k0 = q' := by rw [Ek0.out]; exact (KI.over KD2.out j3 j2 hB).symm
                clear j1 j2 j3 hy1b hqb hB hI hA hC
                go_wp2
                go_ret2
                have hfin := shift_div (num h l) y s (k1 * 4294967296 + k0) R (by rw [HN.out, ← Ek1.out, ← Ev.out, ← Ek0.out, ← ER.out, ← EY.out]) (by rw [ER.out, ← EY.out]; exact kr_lt KD2.out)
                exact ⟨ret_two (congrArg Nat.cast (by rw [hfin.1, EQ.out])) (by rw [← Int.natCast_emod, hfin.2, EF.out]), Below.refl _ _⟩
              · have g5 : decide ((4294967296 : Int) ≤ (r' : Int)) = false := by rw [decide_eq_false_iff_not]; omega
                have HJ := Lib.hid (show KI v Y y1 m0 q' r' ∧ r' < 4294967296 from ⟨j3, by omega⟩)
                have HQ : Hid (q' < qh) := by show _ < _; have := Eq'.out; omega
                clear j1 j2 j3 hy1b hqb hB hI hA hC
                go_wp2
                go_round
                case rel => exact ⟨q', r', rfl, rfl, HJ⟩
                case measure => simp [intOf]; exact HQ.out
            · have g9 : decide (R2 < P) = false := by rw [decide_eq_false_iff_not]; exact hlt2
              obtain rfl : k0 = qh := by rw [Ek0.out]; exact (KI.done KD2.out hI.1 (by rw [← hR2, ← EP.out]; omega)).symm
              clear hP hrh hmb hR2 hlt2 hI hA
              go_wp2
              go_ret2
              have hfin := shift_div (num h l) y s (k1 * 4294967296 + k0) R (by rw [HN.out, ← Ek1.out, ← Ev.out, ← Ek0.out, ← ER.out, ← EY.out]) (by rw [ER.out, ← EY.out]; exact kr_lt KD2.out)
              exact ⟨ret_two (congrArg Nat.cast (by rw [hfin.1, EQ.out])) (by rw [← Int.natCast_emod, hfin.2, EF.out]), Below.refl _ _⟩
end Go.Proofs.YtoopbgpoelpjfaaDoor
namespace Go.Proofs.YtoopbgpoelpjfaaDoor
set_option linter.unusedVariables false
open Go.ChangeShapes Go.WideShapes Go.ChangeAt Go.RowKit
theorem mul_any (a b : Nat) (ha : U a) (hb : U b) (w : World) :
    Calls Tryd.prog 78 #[.int .u64 a, .int .u64 b] w fun e w' => e = .returned (.agg #[.int .u64 (hi (a * b)), .int .u64 (lo (a * b))]) ∧ Below w.heap.size w w' := by
  have hc := Tryd.bits_Mul64 a b ha hb
  have e1 : a * b / 18446744073709551616 = hi (a * b) := by
    have h1 : a * b < 18446744073709551616 * 18446744073709551616 := Nat.mul_lt_mul'' ha hb
    have h2 : a * b / 18446744073709551616 < 18446744073709551616 := Nat.div_lt_of_lt_mul h1
    unfold hi; rw [Nat.mod_eq_of_lt h2]
  have e2 : a * b % 18446744073709551616 = lo (a * b) := by unfold lo; rfl
  simp only [e1, e2] at hc
  have HC := Lib.hid hc
  clear hc e1 e2
  generalize a * b = n at *
  go_enter Tryd.func78, Tryd.ntmps78
  refine wp_shut ?_
  go_wp2_with fail
  refine (HC.out _).mono ?_
  rintro e w' ⟨rfl, rfl⟩
  go_wp2
  refine shut_ret (v := .agg #[.int .u64 (hi n), .int .u64 (lo n)]) (by simp [results, Tryd.results78, go_sem]) rfl ⟨rfl, ?_⟩
  go_grown
theorem div_zero (h l : Nat) (w : World) : Calls Tryd.prog 77 #[.agg #[.int .u64 h, .int .u64 l], .int .u64 0] w fun e w' => e = .returned (.tuple #[.agg #[.int .u64 0, .int .u64 0], .int .u64 0, .int .i64 5]) ∧ Below w.heap.size w w' := by
  go_enter Tryd.func77, Tryd.ntmps77
  refine wp_shut ?_
  go_wp2
  refine shut_ret (v := .tuple #[.agg #[.int .u64 0, .int .u64 0], .int .u64 0, .int .i64 5]) (by simp [results, Tryd.results77, go_sem]) rfl ⟨rfl, ?_⟩
  go_grown
theorem div64 (h l y : Nat) (hh : U h) (hl : U l) (hy : h < y) (hy2 : U y) (w : World) :
    Calls Tryd.prog 80 #[.int .u64 h, .int .u64 l, .int .u64 y] w fun e w' => e = .returned (.tuple #[.int .u64 (num h l / y : Nat), .int .u64 (num h l % y : Nat)]) ∧ Below w.heap.size w w' := by
  by_cases h0 : 0 < h
  · exact div64_any h l y hh hl hy hy2 h0 w
  · obtain rfl : h = 0 := by omega
    rw [num_zero]
    exact div64_zero l y hl hy w
theorem div_parts (h l b : Nat) (hh : U h) (hl : U l) (hb : U b) (hb0 : 0 < b) : hi (num h l / b) = h / b ∧ lo (num h l / b) = num (h % b) l / b ∧ num h l % b = num (h % b) l % b := by
  have e : num h l = b * (h / b * 18446744073709551616) + num (h % b) l := by
    unfold num
    have := Nat.div_add_mod h b
    have h2 : b * (h / b * 18446744073709551616) = b * (h / b) * 18446744073709551616 := by rw [Nat.mul_assoc]
    rw [h2, ← Nat.add_assoc, ← Nat.add_mul, this]
  have h3 : num (h % b) l / b < 18446744073709551616 := by
    rw [Nat.div_lt_iff_lt_mul hb0]
    have := Nat.mod_lt h hb0
    have h4 : (h % b + 1) * 18446744073709551616 ≤ b * 18446744073709551616 := Nat.mul_le_mul_right _ this
    unfold num; unfold U at hl
    rw [Nat.add_mul, Nat.one_mul] at h4
    rw [Nat.mul_comm 18446744073709551616 b]
    omega
  have h5 : h / b < 18446744073709551616 := Nat.lt_of_le_of_lt (Nat.div_le_self _ _) hh
  have e2 : num h l / b = h / b * 18446744073709551616 + num (h % b) l / b := by rw [e, Nat.mul_add_div hb0]
  refine ⟨?_, ?_, ?_⟩
  · rw [e2]; clear e e2; generalize h / b = t at *; generalize num (h % b) l / b = x at *; unfold hi; omega
  · rw [e2]; clear e e2; generalize h / b = t at *; generalize num (h % b) l / b = x at *; unfold lo; omega
  · rw [e, Nat.mul_add_mod]
end Go.Proofs.YtoopbgpoelpjfaaDoor
namespace Go.Proofs.YtoopbgpoelpjfaaDoor
set_option linter.unusedVariables false
open Go.ChangeShapes Go.WideShapes Go.ChangeAt Go.RowKit
set_option maxHeartbeats 300000 in
set_option maxRecDepth 100000 in
theorem div_any (h l b : Nat) (hh : U h) (hl : U l) (hb : U b) (hb0 : 0 < b) (w : World) : Calls Tryd.prog 77 #[.agg #[.int .u64 h, .int .u64 l], .int .u64 b] w fun e w' =>
    e = .returned (.tuple #[.agg #[.int .u64 (hi (num h l / b)), .int .u64 (lo (num h l / b))], .int .u64 (num h l % b : Nat), .int .i64 0]) ∧ Below w.heap.size w w' := by
  obtain ⟨p1, p2, p3⟩ := div_parts h l b hh hl hb hb0
  obtain ⟨m, Em⟩ : ∃ m, Hid (m = h % b) := ⟨_, rfl⟩
  have hm : m < b := by rw [Em.out]; exact Nat.mod_lt _ hb0
  have fm : ((h : Int) % (b : Int)) = (m : Int) := by rw [Em.out, Int.natCast_emod]
  have ftm : (h : Int).tmod (b : Int) = (m : Int) := by rw [Int.tmod_eq_emod_of_nonneg (by omega)]; exact fm
  have fwm : IntKind.u64.wrap (m : Int) = (m : Int) := wrap_nat _ (Nat.lt_trans hm hb)
  have hc := div64 m l b (Nat.lt_trans hm hb) hl hm hb
  rw [← Em.out] at p2 p3
  obtain ⟨q, Eq⟩ : ∃ q, Hid (q = num m l / b) := ⟨_, rfl⟩
  obtain ⟨r, Er⟩ : ∃ r, Hid (r = num m l % b) := ⟨_, rfl⟩
  have hc2 : ∀ w, Calls Tryd.prog 80 #[.int .u64 m, .int .u64 l, .int .u64 b] w fun e w' => e = .returned (.tuple #[.int .u64 q, .int .u64 r]) ∧ Below w.heap.size w w' := fun w => (hc w).mono fun e w' ⟨a, b⟩ => ⟨by rw [a, Eq.out, Er.out], b⟩
  have HC := Lib.hid hc2
  obtain ⟨t, Et⟩ : ∃ t, Hid (t = h / b) := ⟨_, rfl⟩
  have ft : IntKind.u64.wrap ((h : Int) / (b : Int)) = (t : Int) := by
    have e : ((h : Int) / (b : Int)) = (t : Int) := by rw [Et.out]; rfl
    rw [e]; exact wrap_nat _ (by rw [Et.out]; exact Nat.lt_of_le_of_lt (Nat.div_le_self _ _) hh)
  have E1 : Hid (hi (num h l / b) = t) := by show _ = _; rw [p1, Et.out]
  have E2 : Hid (lo (num h l / b) = q) := by show _ = _; rw [p2, Eq.out]
  have E3 : Hid (num h l % b = r) := by show _ = _; rw [p3, Er.out]
  have hbz : ((b : Int) == 0) = false := by rw [beq_eq_false_iff_ne]; omega
  have hbp : (0 : Int) < (b : Int) := by omega
  have hbn : ¬ ((b : Int) = 0) := by omega
  have hbn2 : ¬ (b = 0) := by omega
  clear p1 p2 p3 hm hc hc2 hh hl hb hb0
  obtain ⟨W0, hW0⟩ : ∃ W0, W0 = (w.alloc (Obj.cells #[Value.int IntKind.u64 ↑h, Value.int IntKind.u64 ↑l] 66)).alloc (Obj.cells #[Value.int IntKind.u64 0, Value.int IntKind.u64 0] 66) := ⟨_, rfl⟩
  have c1 : W0.cell? ⟨w.heap.size, 0, none⟩ = some (.int .u64 h) := by rw [hW0]; simp [go_sem]
  have c2 : W0.cell? ⟨w.heap.size, 1, none⟩ = some (.int .u64 l) := by rw [hW0]; simp [go_sem]
  have c3 : W0.cell? ⟨w.heap.size + 1, 0, none⟩ = some (.int .u64 0) := by rw [hW0]; simp [go_sem]
  have c4 : W0.cell? ⟨w.heap.size + 1, 1, none⟩ = some (.int .u64 0) := by rw [hW0]; simp [go_sem]
  have d3 : W0.frozen? ⟨w.heap.size + 1, 0, none⟩ = false := by rw [hW0]; simp [go_sem]
  have d4 : W0.frozen? ⟨w.heap.size + 1, 1, none⟩ = false := by rw [hW0]; simp [go_sem]
  have hs0 : w.heap.size + 1 < W0.heap.size := by rw [hW0]; simp
  have hB0 : Below w.heap.size w W0 := by rw [hW0]; exact below2 _ _ _
  have HB0 := Lib.hid hB0
  have HW0 := Lib.hid hW0
  clear hB0 hW0
  go_enter Tryd.func77, Tryd.ntmps77
  refine wp_shut ?_
  go_wp2_with fail
  rw [← HW0.out]
  go_region_held3 (fun w' => Below W0.heap.size W0 w' ∧ w'.cell? ⟨w.heap.size, 0, none⟩ = some (.int .u64 h) ∧ w'.cell? ⟨w.heap.size, 1, none⟩ = some (.int .u64 l))
    (first
      | ((try go_split_ands); refine ⟨(Below.refl _ _).drew, ?_, ?_⟩ <;> first | assumption | (rw [World.cell?_drew]; assumption))
      | ((try go_split_ands); refine ⟨keepS (W0 := W0) ?_ hb1, cellS (W0 := W0) ?_ hb1 ?_ ?_, cellS (W0 := W0) ?_ hb1 ?_ ?_⟩ <;> first | assumption | omega)
      | ((try go_split_ands); refine ⟨keepA (W0 := W0) ?_ _, cellA (W0 := W0) ?_ _ ?_ ?_, cellA (W0 := W0) ?_ _ ?_ ?_⟩ <;> first | assumption | omega)
      | ((try go_split_ands); refine ⟨keepAd (W0 := W0) ?_ _, cellAd (W0 := W0) ?_ _ ?_ ?_, cellAd (W0 := W0) ?_ _ ?_ ?_⟩ <;> first | assumption | omega | exact Below.refl _ _))
    (first | (go_at_call 80; refine (HC.out _).mono ?_; rintro e w1 ⟨rfl, hb1⟩))
  go_split_ands
  have hBw : Below W0.heap.size W0 w1 := (Below.refl W0.heap.size W0).drew.trans hb1
  have k3 : w1.cell? ⟨w.heap.size + 1, 0, none⟩ = some (.int .u64 0) := by rw [hBw.cell (p := ⟨w.heap.size + 1, 0, none⟩) hs0]; exact c3
  have k4 : w1.cell? ⟨w.heap.size + 1, 1, none⟩ = some (.int .u64 0) := by rw [hBw.cell (p := ⟨w.heap.size + 1, 1, none⟩) hs0]; exact c4
  have g3 : w1.frozen? ⟨w.heap.size + 1, 0, none⟩ = false := by rw [hBw.frozen (p := ⟨w.heap.size + 1, 0, none⟩) hs0]; exact d3
  have g4 : w1.frozen? ⟨w.heap.size + 1, 1, none⟩ = false := by rw [hBw.frozen (p := ⟨w.heap.size + 1, 1, none⟩) hs0]; exact d4
  have HB1 := Lib.hid (HB0.out.trans (hBw.mono (by omega)))
  clear hb1 hBw c1 c2 c3 c4 d3 d4 hs0
  go_wp2
  refine shut_ret (v := .tuple #[.agg #[.int .u64 t, .int .u64 q], .int .u64 r, .int .i64 0]) (by simp [results, Tryd.results77, go_sem, k3, k4]) rfl ⟨by rw [E1.out, E2.out, E3.out], ?_⟩
  exact (HB1.out.setCell (by show w.heap.size ≤ w.heap.size + 1; omega) _).setCell (by show w.heap.size ≤ w.heap.size + 1; omega) _
end Go.Proofs.YtoopbgpoelpjfaaDoor
namespace Go.Proofs.YtoopbgpoelpjfaaDoor
set_option linter.unusedVariables false
open Go.ChangeShapes Go.WideShapes Go.ChangeAt Go.RowKit
theorem row_set {w : World} {b : Nat} {x y : Value} {t : TypeId} (h : w.heap[b]? = some (.cells #[x, y] t (0, 0))) (p q : Value) :
    ((w.setCell ⟨b, 0, none⟩ p).setCell ⟨b, 1, none⟩ q).heap[b]? = some (.cells #[p, q] t (0, 0)) := by
  simp [World.setCell, Array.getElem?_modify, h]
theorem row_alloc {w : World} {b : Nat} {x : Obj} (h : w.heap[b]? = some x) (o : Obj) : (w.alloc o).heap[b]? = some x := by
  rw [heap_alloc_old _ _ (lt_of_heap h)]; exact h
end Go.Proofs.YtoopbgpoelpjfaaDoor
namespace Go.Proofs.YtoopbgpoelpjfaaDoor
set_option linter.unusedVariables false
open Go.ChangeShapes Go.WideShapes Go.ChangeAt Go.RowKit
end Go.Proofs.YtoopbgpoelpjfaaDoor
namespace Go.Proofs.YtoopbgpoelpjfaaDoor
set_option linter.unusedVariables false
open Go.ChangeShapes Go.WideShapes Go.ChangeAt Go.RowKit
end Go.Proofs.YtoopbgpoelpjfaaDoor
namespace Go.Proofs.YtoopbgpoelpjfaaDoor
set_option linter.unusedVariables false
open Go.ChangeShapes Go.WideShapes Go.ChangeAt Go.RowKit
theorem row_call {V w1 : World} {k : Nat} {o : Obj} (hb : Below V.heap.size V w1) (h : V.heap[k]? = some o) : w1.heap[k]? = some o := by rw [hb.block _ (lt_of_heap h)]; exact h
theorem row_new {W w1 : World} {o : Obj} (hb : Below (W.alloc o).heap.size (W.alloc o) w1) : w1.heap[W.heap.size]? = some o := row_call hb (heap_alloc_new W o)
theorem row_newd {W w1 : World} {o : Obj} (hb : Below (W.alloc o).drew.heap.size (W.alloc o).drew w1) : w1.heap[W.heap.size]? = some o := row_call hb (heap_alloc_new W o)
theorem row_cellA {w : World} {k : Nat} {cs : Array Value} {T : TypeId} (h : w.heap[k]? = some (.cells cs T (0, 0))) : ∀ i, w.cell? ⟨k, i, none⟩ = cs[i]? := fun i => cell_of_row _ _ _ _ _ _ h
theorem row_frozA {w : World} {k : Nat} {cs : Array Value} {T : TypeId} (h : w.heap[k]? = some (.cells cs T (0, 0))) : ∀ i, w.frozen? ⟨k, i, none⟩ = false := fun i => by simp [World.frozen?, h]
theorem keep2 {W0 W : World} {k : Nat} (h : Below W0.heap.size W0 W) (hk : W0.heap.size ≤ k) (a b : Value) : Below W0.heap.size W0 ((W.setCell ⟨k, 0, none⟩ a).setCell ⟨k, 1, none⟩ b) :=
  (h.setCell (by exact hk) _).setCell (by exact hk) _
theorem cell2 {W0 W : World} {k b o : Nat} {v : Value} (hk : W0.heap.size ≤ k) (p q : Value) (hlt : b < W0.heap.size) (hc : W.cell? ⟨b, o, none⟩ = some v) : ((W.setCell ⟨k, 0, none⟩ p).setCell ⟨k, 1, none⟩ q).cell? ⟨b, o, none⟩ = some v := by
  rw [← hc]
  have h1 : ((W.setCell ⟨k, 0, none⟩ p).setCell ⟨k, 1, none⟩ q).heap[b]? = W.heap[b]? := by
    rw [Below.heap_setCell _ _ _ _ (by show b ≠ k; omega), Below.heap_setCell _ _ _ _ (by show b ≠ k; omega)]
  unfold World.cell?
  simp only [h1]
theorem keepZ {W0 W : World} (h : ∃ o, Below W0.heap.size W0 (W.alloc o)) (hg : W0.heap.size ≤ W.heap.size) (o' : Obj) : Below W0.heap.size W0 (W.alloc o') :=
  let ⟨_, h⟩ := h
  ⟨h.os, h.tape, h.output, by simp; omega, fun k hk => by
    have := h.block k hk
    rw [heap_alloc_old _ _ (by omega)] at this
    rw [heap_alloc_old _ _ (by omega)]; exact this⟩
theorem cellZ {W0 W : World} {b j : Nat} {v : Value} (hg : W0.heap.size ≤ W.heap.size) (o' : Obj) (hlt : b < W0.heap.size) (hc : ∃ o, (W.alloc o).cell? ⟨b, j, none⟩ = some v) : (W.alloc o').cell? ⟨b, j, none⟩ = some v := by
  obtain ⟨o, hc⟩ := hc
  have h1 : b < W.heap.size := by omega
  rw [World.cell?_alloc_past _ _ _ h1] at hc
  rw [World.cell?_alloc_past _ _ _ h1]; exact hc
end Go.Proofs.YtoopbgpoelpjfaaDoor
namespace Go.Proofs.YtoopbgpoelpjfaaDoor
set_option linter.unusedVariables false
open Go.ChangeShapes Go.WideShapes Go.ChangeAt Go.RowKit
end Go.Proofs.YtoopbgpoelpjfaaDoor
namespace Go.Proofs.YtoopbgpoelpjfaaDoor
set_option linter.unusedVariables false
open Go.ChangeShapes Go.WideShapes Go.ChangeAt Go.RowKit
end Go.Proofs.YtoopbgpoelpjfaaDoor
namespace Go.Proofs.YtoopbgpoelpjfaaDoor
set_option linter.unusedVariables false
open Go.ChangeShapes Go.WideShapes Go.ChangeAt Go.RowKit
end Go.Proofs.YtoopbgpoelpjfaaDoor
namespace Go.Proofs.YtoopbgpoelpjfaaDoor
set_option linter.unusedVariables false
open Go.ChangeShapes Go.WideShapes Go.ChangeAt Go.RowKit
end Go.Proofs.YtoopbgpoelpjfaaDoor
namespace Go.Proofs.YtoopbgpoelpjfaaDoor
set_option linter.unusedVariables false
open Go.ChangeShapes Go.WideShapes Go.ChangeAt Go.RowKit
end Go.Proofs.YtoopbgpoelpjfaaDoor
namespace Go.Proofs.YtoopbgpoelpjfaaDoor
set_option linter.unusedVariables false
open Go.ChangeShapes Go.WideShapes Go.ChangeAt Go.RowKit
end Go.Proofs.YtoopbgpoelpjfaaDoor
namespace Go.Proofs.YtoopbgpoelpjfaaDoor
set_option linter.unusedVariables false
open Go.ChangeShapes Go.WideShapes Go.ChangeAt Go.RowKit
theorem int_bd {a : Int} (w : (Lit.int .i64 a).wf = true) : -9223372036854775808 ≤ a ∧ a < 9223372036854775808 := by
  have h := bounds_i64 w
  omega
end Go.Proofs.YtoopbgpoelpjfaaDoor
namespace Go.Proofs.YtoopbgpoelpjfaaDoor
set_option linter.unusedVariables false
open Go.ChangeShapes Go.WideShapes Go.ChangeAt Go.RowKit
end Go.Proofs.YtoopbgpoelpjfaaDoor
namespace Go.Proofs.YtoopbgpoelpjfaaDoor
set_option linter.unusedVariables false
open Go.ChangeShapes Go.WideShapes Go.ChangeAt Go.RowKit
theorem row_at {w : World} {k k' : Nat} {o : Option Obj} (e : k = k') (h : w.heap[k]? = o) : w.heap[k']? = o := e ▸ h
theorem row_by {w w' : World} {k : Nat} {o : Option Obj} (e : w' = w) (h : w.heap[k]? = o) : w'.heap[k]? = o := e ▸ h
theorem below_by {n : Nat} {w v v' : World} (e : v' = v) (h : Below n w v) : Below n w v' := e ▸ h
end Go.Proofs.YtoopbgpoelpjfaaDoor
namespace Go.Proofs.YtoopbgpoelpjfaaDoor
set_option linter.unusedVariables false
open Go.ChangeShapes Go.WideShapes Go.ChangeAt Go.RowKit
def zw (z : Int) : Nat := (z % 340282366920938463463374607431768211456).toNat
@[irreducible] def zh (z : Int) : Nat := hi (zw z)
@[irreducible] def zl (z : Int) : Nat := lo (zw z)
theorem zw_lt (z : Int) : zw z < 340282366920938463463374607431768211456 := by unfold zw; omega
theorem zh_U (z : Int) : U (zh z) := by unfold zh; exact hi_U _
theorem zl_U (z : Int) : U (zl z) := by unfold zl; exact lo_U _
theorem num_z (z : Int) : num (zh z) (zl z) = zw z := by unfold zh zl; exact num_hl_of (zw_lt z)
theorem hi_z {n : Nat} {z : Int} (h : n % 340282366920938463463374607431768211456 = zw z) : hi n = zh z := by unfold zh; rw [← hi_mod, h]
theorem lo_z {n : Nat} {z : Int} (h : n % 340282366920938463463374607431768211456 = zw z) : lo n = zl z := by unfold zl; rw [← lo_mod, h]
theorem zw_add (x y : Int) : (zw x + zw y) % 340282366920938463463374607431768211456 = zw (x + y) := by unfold zw; omega
theorem zw_neg (x : Int) : (340282366920938463463374607431768211456 - zw x) % 340282366920938463463374607431768211456 = zw (-x) := by unfold zw; omega
theorem zw_nat (n : Nat) (h : n < 340282366920938463463374607431768211456) : zw (n : Int) = n := by unfold zw; omega
def in128 (z : Int) : Prop := -170141183460469231731687303715884105728 ≤ z ∧ z < 170141183460469231731687303715884105728
def in64 (z : Int) : Prop := -9223372036854775808 ≤ z ∧ z < 9223372036854775808
instance (z : Int) : Decidable (in64 z) := by unfold in64; infer_instance
theorem zh_of (n : Int) (b : in64 n) : ofH n = zh n := by
  unfold in64 at b
  unfold ofH zh hi zw
  split <;> omega
theorem zl_of (n : Int) : ofL n = zl n := by
  unfold ofL zl lo zw
  omega
theorem neg_z (z : Int) (b : in128 z) : neg (zh z) = decide (z < 0) := by
  unfold in128 at b
  unfold neg zh hi zw
  rw [decide_eq_decide]
  omega
def iV (z : Int) : Int := if -9223372036854775808 ≤ z ∧ z < 9223372036854775808 then z else 0
def iE (z : Int) : Int := if -9223372036854775808 ≤ z ∧ z < 9223372036854775808 then 0 else 8
theorem iV_of {z : Int} (b : in64 z) : iV z = z := if_pos b
theorem iE_of {z : Int} (b : in64 z) : iE z = 0 := if_pos b
theorem iV_not {z : Int} (b : ¬ in64 z) : iV z = 0 := if_neg b
theorem iE_not {z : Int} (b : ¬ in64 z) : iE z = 8 := if_neg b
theorem intOk_z (z : Int) (b : in128 z) : intOk (zh z) (zl z) = decide (in64 z) := by
  unfold in128 at b
  unfold intOk sgn
  rw [IntKind.wrap_i64]
  unfold ofH zh zl hi lo zw in64
  by_cases h : -9223372036854775808 ≤ z ∧ z < 9223372036854775808
  · rw [decide_eq_true h, beq_iff_eq]
    split <;> omega
  · rw [decide_eq_false h, beq_eq_false_iff_ne]
    split <;> omega
theorem sgn_z (z : Int) (b : in64 z) : sgn (zl z) = z := by
  unfold in64 at b
  unfold sgn zl lo zw
  rw [IntKind.wrap_i64]
  omega
theorem int_z (z : Int) (b : in128 z) : (if intOk (zh z) (zl z) then sgn (zl z) else 0) = iV z ∧ (if intOk (zh z) (zl z) then (0 : Int) else 8) = iE z := by
  rw [intOk_z z b]
  by_cases h : in64 z
  · rw [decide_eq_true h, if_pos rfl, if_pos rfl, iV_of h, iE_of h, sgn_z z h]; exact ⟨rfl, rfl⟩
  · rw [decide_eq_false h, if_neg (by decide), if_neg (by decide), iV_not h, iE_not h]; exact ⟨rfl, rfl⟩
end Go.Proofs.YtoopbgpoelpjfaaDoor
namespace Go.Proofs.YtoopbgpoelpjfaaDoor
set_option linter.unusedVariables false
open Go.ChangeShapes Go.WideShapes Go.ChangeAt Go.RowKit
@[irreducible] def cb (x y : Int) : Bool := big (zw x + zw y)
@[irreducible] def bb (x y : Int) : Bool := decide (zw x < zw y)
theorem zOf_any (n : Int) (b : in64 n) (w : World) : Calls Tryd.prog 70 #[.int .i64 n] w fun e w' => e = .returned (.agg #[.int .u64 (zh n), .int .u64 (zl n)]) ∧ Below w.heap.size w w' := by
  have h := of_any n b w
  rw [zh_of n b, zl_of n] at h
  exact h
theorem zAdd_any (x y : Int) (w : World) : Calls Tryd.prog 69 #[.agg #[.int .u64 (zh x), .int .u64 (zl x)], .agg #[.int .u64 (zh y), .int .u64 (zl y)]] w fun e w' => e = .returned (.tuple #[.agg #[.int .u64 (zh (x + y)), .int .u64 (zl (x + y))], .bool (cb x y)]) ∧ Below w.heap.size w w' := by
  have h := add_any (zh x) (zl x) (zh y) (zl y) (zh_U x) (zl_U x) (zh_U y) (zl_U y) w
  rw [num_z, num_z, hi_z (zw_add x y), lo_z (zw_add x y)] at h
  unfold cb
  exact h
theorem zNeg_any (x : Int) (w : World) : Calls Tryd.prog 79 #[.agg #[.int .u64 (zh x), .int .u64 (zl x)]] w fun e w' => e = .returned (.agg #[.int .u64 (zh (-x)), .int .u64 (zl (-x))]) ∧ Below w.heap.size w w' := by
  have h := neg_any (zh x) (zl x) (zh_U x) (zl_U x) w
  rw [num_z, hi_z (zw_neg x), lo_z (zw_neg x)] at h
  exact h
theorem zInt_any (x : Int) (b : in128 x) (w : World) : Calls Tryd.prog 71 #[.agg #[.int .u64 (zh x), .int .u64 (zl x)]] w fun e w' => e = .returned (.tuple #[.int .i64 (iV x), .int .i64 (iE x)]) ∧ Below w.heap.size w w' := by
  have h := int_any (zh x) (zl x) (zh_U x) (zl_U x) w
  rw [(int_z x b).1, (int_z x b).2] at h
  exact h
theorem zMul_any (a b : Nat) (ha : U a) (hb : U b) (w : World) : Calls Tryd.prog 78 #[.int .u64 a, .int .u64 b] w fun e w' => e = .returned (.agg #[.int .u64 (zh (a * b : Nat)), .int .u64 (zl (a * b : Nat))]) ∧ Below w.heap.size w w' := by
  have h := mul_any a b ha hb w
  have e : a * b % 340282366920938463463374607431768211456 = zw (a * b : Nat) := by unfold zw; omega
  rw [hi_z e, lo_z e] at h
  exact h
theorem zDiv_any (n b : Nat) (hn : n < 340282366920938463463374607431768211456) (hb : U b) (hb0 : 0 < b) (w : World) : Calls Tryd.prog 77 #[.agg #[.int .u64 (zh (n : Nat)), .int .u64 (zl (n : Nat))], .int .u64 b] w fun e w' => e = .returned (.tuple #[.agg #[.int .u64 (zh (n / b : Nat)), .int .u64 (zl (n / b : Nat))], .int .u64 (n % b : Nat), .int .i64 0]) ∧ Below w.heap.size w w' := by
  have h := div_any (zh n) (zl n) b (zh_U _) (zl_U _) hb hb0 w
  have e : n / b % 340282366920938463463374607431768211456 = zw (n / b : Nat) := by unfold zw; omega
  rw [num_z, zw_nat n hn, hi_z e, lo_z e] at h
  exact h
theorem zDiv_zero (x : Int) (w : World) : Calls Tryd.prog 77 #[.agg #[.int .u64 (zh x), .int .u64 (zl x)], .int .u64 0] w fun e w' => e = .returned (.tuple #[.agg #[.int .u64 0, .int .u64 0], .int .u64 0, .int .i64 5]) ∧ Below w.heap.size w w' := by
  exact div_zero (zh x) (zl x) w
theorem rOf_any (n : Int) (b : in64 n) (w : World) : Calls Tryd.prog 45 #[.int .i64 n] w fun e w' => e = .returned (.agg #[.int .u64 (zh n), .int .u64 (zl n)]) ∧ Below w.heap.size w w' := by
  have h := refOf_any n w
  rw [zh_of n b, zl_of n] at h
  exact h
theorem rAdd_any (x y : Int) (w : World) : Calls Tryd.prog 44 #[.agg #[.int .u64 (zh x), .int .u64 (zl x)], .agg #[.int .u64 (zh y), .int .u64 (zl y)]] w fun e w' => e = .returned (.tuple #[.agg #[.int .u64 (zh (x + y)), .int .u64 (zl (x + y))], .bool (cb x y)]) ∧ Below w.heap.size w w' := by
  have h := refAdd_any (zh x) (zl x) (zh y) (zl y) (zh_U x) (zl_U x) (zh_U y) (zl_U y) w
  rw [num_z, num_z, hi_z (zw_add x y), lo_z (zw_add x y)] at h
  unfold cb
  exact h
theorem rNeg_any (x : Int) (w : World) : Calls Tryd.prog 61 #[.agg #[.int .u64 (zh x), .int .u64 (zl x)]] w fun e w' => e = .returned (.agg #[.int .u64 (zh (-x)), .int .u64 (zl (-x))]) ∧ Below w.heap.size w w' := by
  have h := refNeg_any (zh x) (zl x) (zh_U x) (zl_U x) w
  rw [num_z, hi_z (zw_neg x), lo_z (zw_neg x)] at h
  exact h
theorem rInt_any (x : Int) (b : in128 x) (w : World) : Calls Tryd.prog 46 #[.agg #[.int .u64 (zh x), .int .u64 (zl x)]] w fun e w' => e = .returned (.tuple #[.int .i64 (iV x), .int .i64 (iE x)]) ∧ Below w.heap.size w w' := by
  have h := refInt_any (zh x) (zl x) (zh_U x) (zl_U x) w
  rw [(int_z x b).1, (int_z x b).2] at h
  exact h
theorem rDiv_any (n b : Nat) (hn : n < 340282366920938463463374607431768211456) (hb : U b) (hb0 : 0 < b) (w : World) : Calls Tryd.prog 62 #[.agg #[.int .u64 (zh (n : Nat)), .int .u64 (zl (n : Nat))], .int .u64 b] w fun e w' => e = .returned (.tuple #[.agg #[.int .u64 (zh (n / b : Nat)), .int .u64 (zl (n / b : Nat))], .int .u64 (n % b : Nat), .int .i64 0]) ∧ Below w.heap.size w w' := by
  have h := refDiv_any (zh n) (zl n) b (zh_U _) (zl_U _) hb hb0 w
  have e : n / b % 340282366920938463463374607431768211456 = zw (n / b : Nat) := by unfold zw; omega
  rw [num_z, zw_nat n hn, hi_z e, lo_z e] at h
  exact h
theorem rBelow_any (x : Int) (b : in128 x) (w : World) : Calls Tryd.prog 60 #[.agg #[.int .u64 (zh x), .int .u64 (zl x)]] w fun e w' => e = .returned (.bool (decide (x < 0))) ∧ Below w.heap.size w w' := by
  have h := below_any (zh x) (zl x) w
  rw [neg_z x b] at h
  exact h
end Go.Proofs.YtoopbgpoelpjfaaDoor
namespace Go.Proofs.YtoopbgpoelpjfaaDoor
set_option linter.unusedVariables false
open Go.ChangeShapes Go.WideShapes Go.ChangeAt Go.RowKit
theorem row_other {w : World} {b k : Nat} {o : Option Obj} (hne : b ≠ k) (h : w.heap[b]? = o) (p q : Value) : ((w.setCell ⟨k, 0, none⟩ p).setCell ⟨k, 1, none⟩ q).heap[b]? = o := by
  rw [Below.heap_setCell _ _ _ _ (by show b ≠ k; exact hne), Below.heap_setCell _ _ _ _ (by show b ≠ k; exact hne)]; exact h
set_option maxHeartbeats 800000 in
set_option maxRecDepth 100000 in
theorem zcAdd_any (a b : Int) (ba : in64 a) (bb : in64 b) (w : World) : Calls Tryd.prog 64 #[.int .i64 a, .int .i64 b] w fun e w' => e = .returned (.tuple #[.int .i64 (iV (a + b)), .int .i64 (iE (a + b))]) ∧ Below w.heap.size w w' := by
  have H1 := Lib.hid (zOf_any a ba)
  have H2 := Lib.hid (zOf_any b bb)
  have H3 := Lib.hid (zAdd_any a b)
  have H4 := Lib.hid (zInt_any (a + b) (by unfold in64 at ba bb; unfold in128; omega))
  clear ba bb
  generalize a + b = s at *
  go_enter Tryd.func64, Tryd.ntmps64
  go_wp2_with fail
  
  refine (H1.out _).mono ?_
  rintro e V1 ⟨rfl, hb1⟩
  have B1 : Hid (Below w.heap.size w V1) := by first | exact Lib.hid ((Below.refl w.heap.size w).trans (hb1.mono (by first | assumption | (simp <;> omega) | (simp; done)))) | exact Lib.hid (((Below.refl w.heap.size w).alloc (Nat.le_refl _) _).trans (hb1.mono (by first | assumption | (simp <;> omega) | (simp; done)))) | exact Lib.hid ((((Below.refl w.heap.size w).alloc (Nat.le_refl _) _).alloc (by simp <;> omega) _).trans (hb1.mono (by first | assumption | (simp <;> omega) | (simp; done)))) | exact Lib.hid (((((Below.refl w.heap.size w).alloc (Nat.le_refl _) _).alloc (by simp <;> omega) _).alloc (by simp <;> omega) _).trans (hb1.mono (by first | assumption | (simp <;> omega) | (simp; done))))
  clear hb1
  go_simp
  go_wp2_with fail
  refine (H2.out _).mono ?_
  rintro e V2 ⟨rfl, hb2⟩
  have B2 : Hid (Below w.heap.size w V2) := by first | exact Lib.hid ((B1.out).trans (hb2.mono (by have := B1.out.size; first | assumption | (simp <;> omega) | (simp; done)))) | exact Lib.hid (((B1.out).alloc (B1.out.size) _).trans (hb2.mono (by have := B1.out.size; first | assumption | (simp <;> omega) | (simp; done)))) | exact Lib.hid ((((B1.out).alloc (B1.out.size) _).alloc (by have := B1.out.size; simp <;> omega) _).trans (hb2.mono (by have := B1.out.size; first | assumption | (simp <;> omega) | (simp; done)))) | exact Lib.hid (((((B1.out).alloc (B1.out.size) _).alloc (by have := B1.out.size; simp <;> omega) _).alloc (by have := B1.out.size; simp <;> omega) _).trans (hb2.mono (by have := B1.out.size; first | assumption | (simp <;> omega) | (simp; done))))
  clear hb2
  go_simp
  go_wp2_with fail
  refine (H3.out _).mono ?_
  rintro e V3 ⟨rfl, hb3⟩
  have B3 : Hid (Below w.heap.size w V3) := by first | exact Lib.hid ((B2.out).trans (hb3.mono (by have := B2.out.size; first | assumption | (simp <;> omega) | (simp; done)))) | exact Lib.hid (((B2.out).alloc (B2.out.size) _).trans (hb3.mono (by have := B2.out.size; first | assumption | (simp <;> omega) | (simp; done)))) | exact Lib.hid ((((B2.out).alloc (B2.out.size) _).alloc (by have := B2.out.size; simp <;> omega) _).trans (hb3.mono (by have := B2.out.size; first | assumption | (simp <;> omega) | (simp; done)))) | exact Lib.hid (((((B2.out).alloc (B2.out.size) _).alloc (by have := B2.out.size; simp <;> omega) _).alloc (by have := B2.out.size; simp <;> omega) _).trans (hb3.mono (by have := B2.out.size; first | assumption | (simp <;> omega) | (simp; done))))
  clear hb3
  go_simp
  go_wp2_with fail
  refine (H4.out _).mono ?_
  rintro e V4 ⟨rfl, hb4⟩
  have B4 : Hid (Below w.heap.size w V4) := by first | exact Lib.hid ((B3.out).trans (hb4.mono (by have := B3.out.size; first | assumption | (simp <;> omega) | (simp; done)))) | exact Lib.hid (((B3.out).alloc (B3.out.size) _).trans (hb4.mono (by have := B3.out.size; first | assumption | (simp <;> omega) | (simp; done)))) | exact Lib.hid ((((B3.out).alloc (B3.out.size) _).alloc (by have := B3.out.size; simp <;> omega) _).trans (hb4.mono (by have := B3.out.size; first | assumption | (simp <;> omega) | (simp; done)))) | exact Lib.hid (((((B3.out).alloc (B3.out.size) _).alloc (by have := B3.out.size; simp <;> omega) _).alloc (by have := B3.out.size; simp <;> omega) _).trans (hb4.mono (by have := B3.out.size; first | assumption | (simp <;> omega) | (simp; done))))
  clear hb4
  go_simp
  go_wp2
  go_ret2
  exact ⟨rfl, by first | exact B4.out | exact B4.out.alloc B4.out.size _⟩
set_option maxHeartbeats 800000 in
set_option maxRecDepth 100000 in
theorem rcAdd_any (a b : Int) (ba : in64 a) (bb : in64 b) (w : World) : Calls Tryd.prog 28 #[.int .i64 a, .int .i64 b] w fun e w' => e = .returned (.tuple #[.int .i64 (iV (a + b)), .int .i64 (iE (a + b))]) ∧ Below w.heap.size w w' := by
  have H1 := Lib.hid (rOf_any a ba)
  have H2 := Lib.hid (rOf_any b bb)
  have H3 := Lib.hid (rAdd_any a b)
  have H4 := Lib.hid (rInt_any (a + b) (by unfold in64 at ba bb; unfold in128; omega))
  clear ba bb
  generalize a + b = s at *
  go_enter Tryd.func28, Tryd.ntmps28
  go_wp2_with fail
  
  refine (H1.out _).mono ?_
  rintro e V1 ⟨rfl, hb1⟩
  have B1 : Hid (Below w.heap.size w V1) := by first | exact Lib.hid ((Below.refl w.heap.size w).trans (hb1.mono (by first | assumption | (simp <;> omega) | (simp; done)))) | exact Lib.hid (((Below.refl w.heap.size w).alloc (Nat.le_refl _) _).trans (hb1.mono (by first | assumption | (simp <;> omega) | (simp; done)))) | exact Lib.hid ((((Below.refl w.heap.size w).alloc (Nat.le_refl _) _).alloc (by simp <;> omega) _).trans (hb1.mono (by first | assumption | (simp <;> omega) | (simp; done)))) | exact Lib.hid (((((Below.refl w.heap.size w).alloc (Nat.le_refl _) _).alloc (by simp <;> omega) _).alloc (by simp <;> omega) _).trans (hb1.mono (by first | assumption | (simp <;> omega) | (simp; done))))
  clear hb1
  go_simp
  go_wp2_with fail
  refine (H2.out _).mono ?_
  rintro e V2 ⟨rfl, hb2⟩
  have B2 : Hid (Below w.heap.size w V2) := by first | exact Lib.hid ((B1.out).trans (hb2.mono (by have := B1.out.size; first | assumption | (simp <;> omega) | (simp; done)))) | exact Lib.hid (((B1.out).alloc (B1.out.size) _).trans (hb2.mono (by have := B1.out.size; first | assumption | (simp <;> omega) | (simp; done)))) | exact Lib.hid ((((B1.out).alloc (B1.out.size) _).alloc (by have := B1.out.size; simp <;> omega) _).trans (hb2.mono (by have := B1.out.size; first | assumption | (simp <;> omega) | (simp; done)))) | exact Lib.hid (((((B1.out).alloc (B1.out.size) _).alloc (by have := B1.out.size; simp <;> omega) _).alloc (by have := B1.out.size; simp <;> omega) _).trans (hb2.mono (by have := B1.out.size; first | assumption | (simp <;> omega) | (simp; done))))
  clear hb2
  go_simp
  go_wp2_with fail
  refine (H3.out _).mono ?_
  rintro e V3 ⟨rfl, hb3⟩
  have B3 : Hid (Below w.heap.size w V3) := by first | exact Lib.hid ((B2.out).trans (hb3.mono (by have := B2.out.size; first | assumption | (simp <;> omega) | (simp; done)))) | exact Lib.hid (((B2.out).alloc (B2.out.size) _).trans (hb3.mono (by have := B2.out.size; first | assumption | (simp <;> omega) | (simp; done)))) | exact Lib.hid ((((B2.out).alloc (B2.out.size) _).alloc (by have := B2.out.size; simp <;> omega) _).trans (hb3.mono (by have := B2.out.size; first | assumption | (simp <;> omega) | (simp; done)))) | exact Lib.hid (((((B2.out).alloc (B2.out.size) _).alloc (by have := B2.out.size; simp <;> omega) _).alloc (by have := B2.out.size; simp <;> omega) _).trans (hb3.mono (by have := B2.out.size; first | assumption | (simp <;> omega) | (simp; done))))
  clear hb3
  go_simp
  go_wp2_with fail
  refine (H4.out _).mono ?_
  rintro e V4 ⟨rfl, hb4⟩
  have B4 : Hid (Below w.heap.size w V4) := by first | exact Lib.hid ((B3.out).trans (hb4.mono (by have := B3.out.size; first | assumption | (simp <;> omega) | (simp; done)))) | exact Lib.hid (((B3.out).alloc (B3.out.size) _).trans (hb4.mono (by have := B3.out.size; first | assumption | (simp <;> omega) | (simp; done)))) | exact Lib.hid ((((B3.out).alloc (B3.out.size) _).alloc (by have := B3.out.size; simp <;> omega) _).trans (hb4.mono (by have := B3.out.size; first | assumption | (simp <;> omega) | (simp; done)))) | exact Lib.hid (((((B3.out).alloc (B3.out.size) _).alloc (by have := B3.out.size; simp <;> omega) _).alloc (by have := B3.out.size; simp <;> omega) _).trans (hb4.mono (by have := B3.out.size; first | assumption | (simp <;> omega) | (simp; done))))
  clear hb4
  go_simp
  go_wp2
  go_ret2
  exact ⟨rfl, by first | exact B4.out | exact B4.out.alloc B4.out.size _⟩
end Go.Proofs.YtoopbgpoelpjfaaDoor
namespace Go.Proofs.YtoopbgpoelpjfaaDoor
set_option linter.unusedVariables false
set_option linter.unusedSimpArgs false
open Go.ChangeShapes Go.WideShapes Go.ChangeAt Go.RowKit
theorem natAbs_U {n : Int} (b : in64 n) : U n.natAbs := by unfold in64 at b; unfold U; omega
theorem zAmt_any (n : Int) (b : in64 n) (w : World) : Calls Tryd.prog 76 #[.int .i64 n] w fun e w' => e = .returned (.int .u64 n.natAbs) ∧ Below w.heap.size w w' := by
  obtain ⟨m, Em⟩ : ∃ m, Hid (m = n.natAbs) := ⟨_, rfl⟩
  rw [← Em.out]
  by_cases h : n < 0
  · obtain ⟨x, Ex⟩ : ∃ x, Hid (x = ofL n) := ⟨_, rfl⟩
    have f1 : IntKind.u64.wrap n = (x : Int) := by rw [Ex.out]; exact wrap_ofL n
    have f2 : IntKind.u64.wrap (-(x : Int)) = (m : Int) := by
      rw [Ex.out, Em.out, IntKind.wrap_u64]; unfold ofL; unfold in64 at b; omega
    clear b
    go_enter Tryd.func76, Tryd.ntmps76
    go_wp2
    go_ret
    exact ⟨rfl, Below.refl _ _⟩
  · have f1 : IntKind.u64.wrap n = (m : Int) := by
      rw [Em.out, IntKind.wrap_u64]; unfold in64 at b; omega
    clear b
    go_enter Tryd.func76, Tryd.ntmps76
    go_wp2
    go_ret
    exact ⟨rfl, Below.refl _ _⟩
theorem rAmt_any (n : Int) (b : in64 n) (w : World) : Calls Tryd.prog 63 #[.int .i64 n] w fun e w' => e = .returned (.int .u64 n.natAbs) ∧ Below w.heap.size w w' := by
  obtain ⟨m, Em⟩ : ∃ m, Hid (m = n.natAbs) := ⟨_, rfl⟩
  rw [← Em.out]
  by_cases h : n < 0
  · obtain ⟨x, Ex⟩ : ∃ x, Hid (x = ofL n) := ⟨_, rfl⟩
    have f1 : IntKind.u64.wrap n = (x : Int) := by rw [Ex.out]; exact wrap_ofL n
    have f2 : IntKind.u64.wrap (-(x : Int)) = (m : Int) := by
      rw [Ex.out, Em.out, IntKind.wrap_u64]; unfold ofL; unfold in64 at b; omega
    clear b
    go_enter Tryd.func63, Tryd.ntmps63
    go_wp2
    go_ret
    exact ⟨rfl, Below.refl _ _⟩
  · have f1 : IntKind.u64.wrap n = (m : Int) := by
      rw [Em.out, IntKind.wrap_u64]; unfold in64 at b; omega
    clear b
    go_enter Tryd.func63, Tryd.ntmps63
    go_wp2
    go_ret
    exact ⟨rfl, Below.refl _ _⟩
theorem mul_same {a b : Int} (h : decide (a < 0) = decide (b < 0)) : ((a.natAbs * b.natAbs : Nat) : Int) = a * b := by
  have h2 : (a * b).natAbs = a.natAbs * b.natAbs := Int.natAbs_mul a b
  rw [← h2]
  have h3 : 0 ≤ a * b := by
    rw [decide_eq_decide] at h
    by_cases h1 : a < 0
    · exact Int.mul_nonneg_of_nonpos_of_nonpos (by omega) (by omega)
    · exact Int.mul_nonneg (by omega) (by omega)
  omega
theorem mul_diff {a b : Int} (h : decide (a < 0) = !decide (b < 0)) : -((a.natAbs * b.natAbs : Nat) : Int) = a * b := by
  have h2 : (a * b).natAbs = a.natAbs * b.natAbs := Int.natAbs_mul a b
  rw [← h2]
  have h3 : a * b ≤ 0 := by
    by_cases h1 : a < 0 <;> by_cases h4 : b < 0
    · rw [decide_eq_true h1, decide_eq_true h4] at h; cases h
    · exact Int.mul_nonpos_of_nonpos_of_nonneg (by omega) (by omega)
    · exact Int.mul_nonpos_of_nonneg_of_nonpos (by omega) (by omega)
    · rw [decide_eq_false h1, decide_eq_false h4] at h; cases h
  omega
end Go.Proofs.YtoopbgpoelpjfaaDoor
namespace Go.Proofs.YtoopbgpoelpjfaaDoor
set_option linter.unusedVariables false
set_option linter.unusedSimpArgs false
open Go.ChangeShapes Go.WideShapes Go.ChangeAt Go.RowKit
def fq (n c : Int) : Int := if 0 < c then n / c else (-n) / (-c)
def fr (n c : Int) : Int := n - c * fq n c
def sg (c : Int) (r : Nat) : Int := if c < 0 then -(r : Int) else (r : Int)
theorem sg_neg {c : Int} {r : Nat} (h : c < 0) : sg c r = -(r : Int) := if_pos h
theorem sg_pos {c : Int} {r : Nat} (h : ¬ c < 0) : sg c r = (r : Int) := if_neg h
theorem wneg (r : Nat) (h : r < 9223372036854775808) : wrap64 (-wrap64 (r : Int)) = -(r : Int) := by unfold wrap64; omega
theorem wpos (r : Nat) (h : r < 9223372036854775808) : wrap64 (r : Int) = (r : Int) := by unfold wrap64; omega
set_option maxHeartbeats 1600000 in
set_option maxRecDepth 100000 in
theorem floor_up (a b c : Int) (m1 m2 d q r : Nat) (M : Int) (w : World)
    (H1 : Hid (∀ w, Calls Tryd.prog 76 #[.int .i64 c] w fun e w' => e = .returned (.int .u64 d) ∧ Below w.heap.size w w'))
    (H2 : Hid (∀ w, Calls Tryd.prog 76 #[.int .i64 a] w fun e w' => e = .returned (.int .u64 m1) ∧ Below w.heap.size w w'))
    (H3 : Hid (∀ w, Calls Tryd.prog 76 #[.int .i64 b] w fun e w' => e = .returned (.int .u64 m2) ∧ Below w.heap.size w w'))
    (H4 : Hid (∀ w, Calls Tryd.prog 78 #[.int .u64 m1, .int .u64 m2] w fun e w' => e = .returned (.agg #[.int .u64 (zh M), .int .u64 (zl M)]) ∧ Below w.heap.size w w'))
    (H5 : Hid (∀ w, Calls Tryd.prog 77 #[.agg #[.int .u64 (zh M), .int .u64 (zl M)], .int .u64 d] w fun e w' => e = .returned (.tuple #[.agg #[.int .u64 (zh q), .int .u64 (zl q)], .int .u64 r, .int .i64 0]) ∧ Below w.heap.size w w'))
    (x y z p : Bool) (da : decide (a < 0) = x) (db : decide (b < 0) = y) (dc : decide (c < 0) = z) (e1 : (x == y) = p) (h63 : r < 9223372036854775808) (e2 : ((!p) == z) = true) :
    Calls Tryd.prog 73 #[.int .i64 a, .int .i64 b, .int .i64 c] w fun e w' => e = .returned (.tuple #[.agg #[.int .u64 (zh (q)), .int .u64 (zl (q))], .int .i64 (sg c r), .int .i64 0]) ∧ Below w.heap.size w w' := by
  have k1 := wneg r h63
  have k2 := wpos r h63
  have K1 := Lib.hid k1
  have K2 := Lib.hid k2
  have K3 := Lib.hid (@sg_neg c r)
  have K4 := Lib.hid (@sg_pos c r)
  clear k1 k2 h63
  go_enter Tryd.func73, Tryd.ntmps73
  refine wp_shut ?_
  go_wp2_with fail
  
  refine (H1.out _).mono ?_
  rintro e V1 ⟨rfl, hb1⟩
  have B1 := Lib.hid (((Below.refl w.heap.size w).alloc (Nat.le_refl _) _).trans (hb1.mono (by first | assumption | (simp <;> omega) | (simp; done))))
  have Z1 := Lib.hid (row_call hb1 (heap_alloc_new _ _))
  clear hb1
  have Z1_0 : V1.cell? ⟨w.heap.size, 0, none⟩ = some (.int .u64 0) := cell_of_row _ _ _ _ _ _ Z1.out
  have Z1_1 : V1.cell? ⟨w.heap.size, 1, none⟩ = some (.int .u64 0) := cell_of_row _ _ _ _ _ _ Z1.out
  have Z1_f0 : V1.frozen? ⟨w.heap.size, 0, none⟩ = false := by simp [World.frozen?, Z1.out]
  have Z1_f1 : V1.frozen? ⟨w.heap.size, 1, none⟩ = false := by simp [World.frozen?, Z1.out]
  have zZ1 := lt_of_heap Z1.out
  go_simp
  go_wp2_with fail
  refine (H2.out _).mono ?_
  rintro e V2 ⟨rfl, hb2⟩
  clear Z1_0 Z1_1 Z1_f0 Z1_f1 zZ1
  have B2 : Hid (Below w.heap.size w V2) := by first | exact Lib.hid ((B1.out).trans (hb2.mono (by have := B1.out.size; first | assumption | (simp <;> omega) | (simp; done)))) | exact Lib.hid (((B1.out).alloc (B1.out.size) _).trans (hb2.mono (by have := B1.out.size; first | assumption | (simp <;> omega) | (simp; done)))) | exact Lib.hid ((((B1.out).alloc (B1.out.size) _).alloc (by have := B1.out.size; simp <;> omega) _).trans (hb2.mono (by have := B1.out.size; first | assumption | (simp <;> omega) | (simp; done)))) | exact Lib.hid (((((B1.out).alloc (B1.out.size) _).alloc (by have := B1.out.size; simp <;> omega) _).alloc (by have := B1.out.size; simp <;> omega) _).trans (hb2.mono (by have := B1.out.size; first | assumption | (simp <;> omega) | (simp; done))))
  first | replace Z1 := Lib.hid (row_call hb2 Z1.out) | replace Z1 := Lib.hid (row_call hb2 (row_alloc Z1.out _)) | replace Z1 := Lib.hid (row_call hb2 (row_alloc (row_alloc Z1.out _) _)) | replace Z1 := Lib.hid (row_call hb2 (row_alloc (row_alloc (row_alloc Z1.out _) _) _))
  clear hb2
  have Z1_0 : V2.cell? ⟨w.heap.size, 0, none⟩ = some (.int .u64 0) := cell_of_row _ _ _ _ _ _ Z1.out
  have Z1_1 : V2.cell? ⟨w.heap.size, 1, none⟩ = some (.int .u64 0) := cell_of_row _ _ _ _ _ _ Z1.out
  have Z1_f0 : V2.frozen? ⟨w.heap.size, 0, none⟩ = false := by simp [World.frozen?, Z1.out]
  have Z1_f1 : V2.frozen? ⟨w.heap.size, 1, none⟩ = false := by simp [World.frozen?, Z1.out]
  have zZ1 := lt_of_heap Z1.out
  go_simp
  go_wp2_with fail
  refine (H3.out _).mono ?_
  rintro e V3 ⟨rfl, hb3⟩
  clear Z1_0 Z1_1 Z1_f0 Z1_f1 zZ1
  have B3 : Hid (Below w.heap.size w V3) := by first | exact Lib.hid ((B2.out).trans (hb3.mono (by have := B2.out.size; first | assumption | (simp <;> omega) | (simp; done)))) | exact Lib.hid (((B2.out).alloc (B2.out.size) _).trans (hb3.mono (by have := B2.out.size; first | assumption | (simp <;> omega) | (simp; done)))) | exact Lib.hid ((((B2.out).alloc (B2.out.size) _).alloc (by have := B2.out.size; simp <;> omega) _).trans (hb3.mono (by have := B2.out.size; first | assumption | (simp <;> omega) | (simp; done)))) | exact Lib.hid (((((B2.out).alloc (B2.out.size) _).alloc (by have := B2.out.size; simp <;> omega) _).alloc (by have := B2.out.size; simp <;> omega) _).trans (hb3.mono (by have := B2.out.size; first | assumption | (simp <;> omega) | (simp; done))))
  first | replace Z1 := Lib.hid (row_call hb3 Z1.out) | replace Z1 := Lib.hid (row_call hb3 (row_alloc Z1.out _)) | replace Z1 := Lib.hid (row_call hb3 (row_alloc (row_alloc Z1.out _) _)) | replace Z1 := Lib.hid (row_call hb3 (row_alloc (row_alloc (row_alloc Z1.out _) _) _))
  clear hb3
  have Z1_0 : V3.cell? ⟨w.heap.size, 0, none⟩ = some (.int .u64 0) := cell_of_row _ _ _ _ _ _ Z1.out
  have Z1_1 : V3.cell? ⟨w.heap.size, 1, none⟩ = some (.int .u64 0) := cell_of_row _ _ _ _ _ _ Z1.out
  have Z1_f0 : V3.frozen? ⟨w.heap.size, 0, none⟩ = false := by simp [World.frozen?, Z1.out]
  have Z1_f1 : V3.frozen? ⟨w.heap.size, 1, none⟩ = false := by simp [World.frozen?, Z1.out]
  have zZ1 := lt_of_heap Z1.out
  go_simp
  go_wp2_with fail
  refine (H4.out _).mono ?_
  rintro e V4 ⟨rfl, hb4⟩
  clear Z1_0 Z1_1 Z1_f0 Z1_f1 zZ1
  have B4 : Hid (Below w.heap.size w V4) := by first | exact Lib.hid ((B3.out).trans (hb4.mono (by have := B3.out.size; first | assumption | (simp <;> omega) | (simp; done)))) | exact Lib.hid (((B3.out).alloc (B3.out.size) _).trans (hb4.mono (by have := B3.out.size; first | assumption | (simp <;> omega) | (simp; done)))) | exact Lib.hid ((((B3.out).alloc (B3.out.size) _).alloc (by have := B3.out.size; simp <;> omega) _).trans (hb4.mono (by have := B3.out.size; first | assumption | (simp <;> omega) | (simp; done)))) | exact Lib.hid (((((B3.out).alloc (B3.out.size) _).alloc (by have := B3.out.size; simp <;> omega) _).alloc (by have := B3.out.size; simp <;> omega) _).trans (hb4.mono (by have := B3.out.size; first | assumption | (simp <;> omega) | (simp; done))))
  first | replace Z1 := Lib.hid (row_call hb4 Z1.out) | replace Z1 := Lib.hid (row_call hb4 (row_alloc Z1.out _)) | replace Z1 := Lib.hid (row_call hb4 (row_alloc (row_alloc Z1.out _) _)) | replace Z1 := Lib.hid (row_call hb4 (row_alloc (row_alloc (row_alloc Z1.out _) _) _))
  clear hb4
  have Z1_0 : V4.cell? ⟨w.heap.size, 0, none⟩ = some (.int .u64 0) := cell_of_row _ _ _ _ _ _ Z1.out
  have Z1_1 : V4.cell? ⟨w.heap.size, 1, none⟩ = some (.int .u64 0) := cell_of_row _ _ _ _ _ _ Z1.out
  have Z1_f0 : V4.frozen? ⟨w.heap.size, 0, none⟩ = false := by simp [World.frozen?, Z1.out]
  have Z1_f1 : V4.frozen? ⟨w.heap.size, 1, none⟩ = false := by simp [World.frozen?, Z1.out]
  have zZ1 := lt_of_heap Z1.out
  go_simp
  go_wp2_with fail
  refine (H5.out _).mono ?_
  rintro e V5 ⟨rfl, hb5⟩
  clear Z1_0 Z1_1 Z1_f0 Z1_f1 zZ1
  have B5 : Hid (Below w.heap.size w V5) := by first | exact Lib.hid ((B4.out).trans (hb5.mono (by have := B4.out.size; first | assumption | (simp <;> omega) | (simp; done)))) | exact Lib.hid (((B4.out).alloc (B4.out.size) _).trans (hb5.mono (by have := B4.out.size; first | assumption | (simp <;> omega) | (simp; done)))) | exact Lib.hid ((((B4.out).alloc (B4.out.size) _).alloc (by have := B4.out.size; simp <;> omega) _).trans (hb5.mono (by have := B4.out.size; first | assumption | (simp <;> omega) | (simp; done)))) | exact Lib.hid (((((B4.out).alloc (B4.out.size) _).alloc (by have := B4.out.size; simp <;> omega) _).alloc (by have := B4.out.size; simp <;> omega) _).trans (hb5.mono (by have := B4.out.size; first | assumption | (simp <;> omega) | (simp; done))))
  first | replace Z1 := Lib.hid (row_call hb5 Z1.out) | replace Z1 := Lib.hid (row_call hb5 (row_alloc Z1.out _)) | replace Z1 := Lib.hid (row_call hb5 (row_alloc (row_alloc Z1.out _) _)) | replace Z1 := Lib.hid (row_call hb5 (row_alloc (row_alloc (row_alloc Z1.out _) _) _))
  clear hb5
  have Z1_0 : V5.cell? ⟨w.heap.size, 0, none⟩ = some (.int .u64 0) := cell_of_row _ _ _ _ _ _ Z1.out
  have Z1_1 : V5.cell? ⟨w.heap.size, 1, none⟩ = some (.int .u64 0) := cell_of_row _ _ _ _ _ _ Z1.out
  have Z1_f0 : V5.frozen? ⟨w.heap.size, 0, none⟩ = false := by simp [World.frozen?, Z1.out]
  have Z1_f1 : V5.frozen? ⟨w.heap.size, 1, none⟩ = false := by simp [World.frozen?, Z1.out]
  have zZ1 := lt_of_heap Z1.out
  go_simp
  go_wp2
  · rename_i hc
    refine shut_ret (v := .tuple #[.agg #[.int .u64 (zh (q)), .int .u64 (zl (q))], .int .i64 (wrap64 (-wrap64 (r : Int))), .int .i64 0]) (by simp [results, Tryd.results73, go_sem, Z1_0, Z1_1, zZ1]) rfl ⟨by rw [K1.out, K3.out (of_decide_eq_true (dc.trans hc))], ?_⟩
    exact (keep2 B5.out (Nat.le_refl _) _ _).alloc (by have := B5.out.size; simp; omega) _
  · rename_i hc
    refine shut_ret (v := .tuple #[.agg #[.int .u64 (zh (q)), .int .u64 (zl (q))], .int .i64 (wrap64 (r : Int)), .int .i64 0]) (by simp [results, Tryd.results73, go_sem, Z1_0, Z1_1, zZ1]) rfl ⟨by rw [K2.out, K4.out (by have := of_decide_eq_false (dc.trans (by simpa using hc)); omega)], ?_⟩
    exact (keep2 B5.out (Nat.le_refl _) _ _).alloc (by have := B5.out.size; simp; omega) _
set_option maxHeartbeats 1600000 in
set_option maxRecDepth 100000 in
theorem floor_zero (a b c : Int) (m1 m2 d q r : Nat) (M : Int) (w : World)
    (H1 : Hid (∀ w, Calls Tryd.prog 76 #[.int .i64 c] w fun e w' => e = .returned (.int .u64 d) ∧ Below w.heap.size w w'))
    (H2 : Hid (∀ w, Calls Tryd.prog 76 #[.int .i64 a] w fun e w' => e = .returned (.int .u64 m1) ∧ Below w.heap.size w w'))
    (H3 : Hid (∀ w, Calls Tryd.prog 76 #[.int .i64 b] w fun e w' => e = .returned (.int .u64 m2) ∧ Below w.heap.size w w'))
    (H4 : Hid (∀ w, Calls Tryd.prog 78 #[.int .u64 m1, .int .u64 m2] w fun e w' => e = .returned (.agg #[.int .u64 (zh M), .int .u64 (zl M)]) ∧ Below w.heap.size w w'))
    (H5 : Hid (∀ w, Calls Tryd.prog 77 #[.agg #[.int .u64 (zh M), .int .u64 (zl M)], .int .u64 d] w fun e w' => e = .returned (.tuple #[.agg #[.int .u64 (zh q), .int .u64 (zl q)], .int .u64 r, .int .i64 0]) ∧ Below w.heap.size w w'))
    (x y z p : Bool) (da : decide (a < 0) = x) (db : decide (b < 0) = y) (dc : decide (c < 0) = z) (e1 : (x == y) = p) (h63 : r < 9223372036854775808) (e2 : ((!p) == z) = false) (hr : r = 0) (Q : Int)
    (H8 : Hid (∀ w, Calls Tryd.prog 79 #[.agg #[.int .u64 (zh q), .int .u64 (zl q)]] w fun e w' => e = .returned (.agg #[.int .u64 (zh Q), .int .u64 (zl Q)]) ∧ Below w.heap.size w w')) :
    Calls Tryd.prog 73 #[.int .i64 a, .int .i64 b, .int .i64 c] w fun e w' => e = .returned (.tuple #[.agg #[.int .u64 (zh (Q)), .int .u64 (zl (Q))], .int .i64 (sg c r), .int .i64 0]) ∧ Below w.heap.size w w' := by
  have hsg := Lib.hid (show sg c r = 0 by unfold sg; split <;> omega)
  have k1 := wneg r h63
  have k2 := wpos r h63
  have K1 := Lib.hid k1
  have K2 := Lib.hid k2
  have K3 := Lib.hid (@sg_neg c r)
  have K4 := Lib.hid (@sg_pos c r)
  clear k1 k2 h63
  go_enter Tryd.func73, Tryd.ntmps73
  refine wp_shut ?_
  go_wp2_with fail
  
  refine (H1.out _).mono ?_
  rintro e V1 ⟨rfl, hb1⟩
  have B1 := Lib.hid (((Below.refl w.heap.size w).alloc (Nat.le_refl _) _).trans (hb1.mono (by first | assumption | (simp <;> omega) | (simp; done))))
  have Z1 := Lib.hid (row_call hb1 (heap_alloc_new _ _))
  clear hb1
  have Z1_0 : V1.cell? ⟨w.heap.size, 0, none⟩ = some (.int .u64 0) := cell_of_row _ _ _ _ _ _ Z1.out
  have Z1_1 : V1.cell? ⟨w.heap.size, 1, none⟩ = some (.int .u64 0) := cell_of_row _ _ _ _ _ _ Z1.out
  have Z1_f0 : V1.frozen? ⟨w.heap.size, 0, none⟩ = false := by simp [World.frozen?, Z1.out]
  have Z1_f1 : V1.frozen? ⟨w.heap.size, 1, none⟩ = false := by simp [World.frozen?, Z1.out]
  have zZ1 := lt_of_heap Z1.out
  go_simp
  go_wp2_with fail
  refine (H2.out _).mono ?_
  rintro e V2 ⟨rfl, hb2⟩
  clear Z1_0 Z1_1 Z1_f0 Z1_f1 zZ1
  have B2 : Hid (Below w.heap.size w V2) := by first | exact Lib.hid ((B1.out).trans (hb2.mono (by have := B1.out.size; first | assumption | (simp <;> omega) | (simp; done)))) | exact Lib.hid (((B1.out).alloc (B1.out.size) _).trans (hb2.mono (by have := B1.out.size; first | assumption | (simp <;> omega) | (simp; done)))) | exact Lib.hid ((((B1.out).alloc (B1.out.size) _).alloc (by have := B1.out.size; simp <;> omega) _).trans (hb2.mono (by have := B1.out.size; first | assumption | (simp <;> omega) | (simp; done)))) | exact Lib.hid (((((B1.out).alloc (B1.out.size) _).alloc (by have := B1.out.size; simp <;> omega) _).alloc (by have := B1.out.size; simp <;> omega) _).trans (hb2.mono (by have := B1.out.size; first | assumption | (simp <;> omega) | (simp; done))))
  first | replace Z1 := Lib.hid (row_call hb2 Z1.out) | replace Z1 := Lib.hid (row_call hb2 (row_alloc Z1.out _)) | replace Z1 := Lib.hid (row_call hb2 (row_alloc (row_alloc Z1.out _) _)) | replace Z1 := Lib.hid (row_call hb2 (row_alloc (row_alloc (row_alloc Z1.out _) _) _))
  clear hb2
  have Z1_0 : V2.cell? ⟨w.heap.size, 0, none⟩ = some (.int .u64 0) := cell_of_row _ _ _ _ _ _ Z1.out
  have Z1_1 : V2.cell? ⟨w.heap.size, 1, none⟩ = some (.int .u64 0) := cell_of_row _ _ _ _ _ _ Z1.out
  have Z1_f0 : V2.frozen? ⟨w.heap.size, 0, none⟩ = false := by simp [World.frozen?, Z1.out]
  have Z1_f1 : V2.frozen? ⟨w.heap.size, 1, none⟩ = false := by simp [World.frozen?, Z1.out]
  have zZ1 := lt_of_heap Z1.out
  go_simp
  go_wp2_with fail
  refine (H3.out _).mono ?_
  rintro e V3 ⟨rfl, hb3⟩
  clear Z1_0 Z1_1 Z1_f0 Z1_f1 zZ1
  have B3 : Hid (Below w.heap.size w V3) := by first | exact Lib.hid ((B2.out).trans (hb3.mono (by have := B2.out.size; first | assumption | (simp <;> omega) | (simp; done)))) | exact Lib.hid (((B2.out).alloc (B2.out.size) _).trans (hb3.mono (by have := B2.out.size; first | assumption | (simp <;> omega) | (simp; done)))) | exact Lib.hid ((((B2.out).alloc (B2.out.size) _).alloc (by have := B2.out.size; simp <;> omega) _).trans (hb3.mono (by have := B2.out.size; first | assumption | (simp <;> omega) | (simp; done)))) | exact Lib.hid (((((B2.out).alloc (B2.out.size) _).alloc (by have := B2.out.size; simp <;> omega) _).alloc (by have := B2.out.size; simp <;> omega) _).trans (hb3.mono (by have := B2.out.size; first | assumption | (simp <;> omega) | (simp; done))))
  first | replace Z1 := Lib.hid (row_call hb3 Z1.out) | replace Z1 := Lib.hid (row_call hb3 (row_alloc Z1.out _)) | replace Z1 := Lib.hid (row_call hb3 (row_alloc (row_alloc Z1.out _) _)) | replace Z1 := Lib.hid (row_call hb3 (row_alloc (row_alloc (row_alloc Z1.out _) _) _))
  clear hb3
  have Z1_0 : V3.cell? ⟨w.heap.size, 0, none⟩ = some (.int .u64 0) := cell_of_row _ _ _ _ _ _ Z1.out
  have Z1_1 : V3.cell? ⟨w.heap.size, 1, none⟩ = some (.int .u64 0) := cell_of_row _ _ _ _ _ _ Z1.out
  have Z1_f0 : V3.frozen? ⟨w.heap.size, 0, none⟩ = false := by simp [World.frozen?, Z1.out]
  have Z1_f1 : V3.frozen? ⟨w.heap.size, 1, none⟩ = false := by simp [World.frozen?, Z1.out]
  have zZ1 := lt_of_heap Z1.out
  go_simp
  go_wp2_with fail
  refine (H4.out _).mono ?_
  rintro e V4 ⟨rfl, hb4⟩
  clear Z1_0 Z1_1 Z1_f0 Z1_f1 zZ1
  have B4 : Hid (Below w.heap.size w V4) := by first | exact Lib.hid ((B3.out).trans (hb4.mono (by have := B3.out.size; first | assumption | (simp <;> omega) | (simp; done)))) | exact Lib.hid (((B3.out).alloc (B3.out.size) _).trans (hb4.mono (by have := B3.out.size; first | assumption | (simp <;> omega) | (simp; done)))) | exact Lib.hid ((((B3.out).alloc (B3.out.size) _).alloc (by have := B3.out.size; simp <;> omega) _).trans (hb4.mono (by have := B3.out.size; first | assumption | (simp <;> omega) | (simp; done)))) | exact Lib.hid (((((B3.out).alloc (B3.out.size) _).alloc (by have := B3.out.size; simp <;> omega) _).alloc (by have := B3.out.size; simp <;> omega) _).trans (hb4.mono (by have := B3.out.size; first | assumption | (simp <;> omega) | (simp; done))))
  first | replace Z1 := Lib.hid (row_call hb4 Z1.out) | replace Z1 := Lib.hid (row_call hb4 (row_alloc Z1.out _)) | replace Z1 := Lib.hid (row_call hb4 (row_alloc (row_alloc Z1.out _) _)) | replace Z1 := Lib.hid (row_call hb4 (row_alloc (row_alloc (row_alloc Z1.out _) _) _))
  clear hb4
  have Z1_0 : V4.cell? ⟨w.heap.size, 0, none⟩ = some (.int .u64 0) := cell_of_row _ _ _ _ _ _ Z1.out
  have Z1_1 : V4.cell? ⟨w.heap.size, 1, none⟩ = some (.int .u64 0) := cell_of_row _ _ _ _ _ _ Z1.out
  have Z1_f0 : V4.frozen? ⟨w.heap.size, 0, none⟩ = false := by simp [World.frozen?, Z1.out]
  have Z1_f1 : V4.frozen? ⟨w.heap.size, 1, none⟩ = false := by simp [World.frozen?, Z1.out]
  have zZ1 := lt_of_heap Z1.out
  go_simp
  go_wp2_with fail
  have hr1 : (r : Int) = 0 := by omega
  refine (H5.out _).mono ?_
  rintro e V5 ⟨rfl, hb5⟩
  clear Z1_0 Z1_1 Z1_f0 Z1_f1 zZ1
  have B5 : Hid (Below w.heap.size w V5) := by first | exact Lib.hid ((B4.out).trans (hb5.mono (by have := B4.out.size; first | assumption | (simp <;> omega) | (simp; done)))) | exact Lib.hid (((B4.out).alloc (B4.out.size) _).trans (hb5.mono (by have := B4.out.size; first | assumption | (simp <;> omega) | (simp; done)))) | exact Lib.hid ((((B4.out).alloc (B4.out.size) _).alloc (by have := B4.out.size; simp <;> omega) _).trans (hb5.mono (by have := B4.out.size; first | assumption | (simp <;> omega) | (simp; done)))) | exact Lib.hid (((((B4.out).alloc (B4.out.size) _).alloc (by have := B4.out.size; simp <;> omega) _).alloc (by have := B4.out.size; simp <;> omega) _).trans (hb5.mono (by have := B4.out.size; first | assumption | (simp <;> omega) | (simp; done))))
  first | replace Z1 := Lib.hid (row_call hb5 Z1.out) | replace Z1 := Lib.hid (row_call hb5 (row_alloc Z1.out _)) | replace Z1 := Lib.hid (row_call hb5 (row_alloc (row_alloc Z1.out _) _)) | replace Z1 := Lib.hid (row_call hb5 (row_alloc (row_alloc (row_alloc Z1.out _) _) _))
  clear hb5
  have Z1_0 : V5.cell? ⟨w.heap.size, 0, none⟩ = some (.int .u64 0) := cell_of_row _ _ _ _ _ _ Z1.out
  have Z1_1 : V5.cell? ⟨w.heap.size, 1, none⟩ = some (.int .u64 0) := cell_of_row _ _ _ _ _ _ Z1.out
  have Z1_f0 : V5.frozen? ⟨w.heap.size, 0, none⟩ = false := by simp [World.frozen?, Z1.out]
  have Z1_f1 : V5.frozen? ⟨w.heap.size, 1, none⟩ = false := by simp [World.frozen?, Z1.out]
  have zZ1 := lt_of_heap Z1.out
  go_simp
  go_wp2_with fail
  refine (H8.out _).mono ?_
  rintro e V6 ⟨rfl, hb6⟩
  clear Z1_0 Z1_1 Z1_f0 Z1_f1 zZ1
  have nZ1Q1 := Lib.hid (lt_of_heap Z1.out)
  have nlZ1Q1 : ¬ (w.heap.size = V5.heap.size) := Nat.ne_of_lt (lt_of_heap Z1.out)
  have nrZ1Q1 : ¬ (V5.heap.size = w.heap.size) := Ne.symm (Nat.ne_of_lt (lt_of_heap Z1.out))
  have B6 := Lib.hid (((B5.out).alloc (B5.out.size) _).trans (hb6.mono (by have := B5.out.size; first | assumption | (simp <;> omega) | (simp; done))))
  replace Z1 := Lib.hid (row_call hb6 (row_alloc Z1.out _))
  have Q1 := Lib.hid (row_call hb6 (heap_alloc_new _ _))
  clear hb6
  have Z1_0 : V6.cell? ⟨w.heap.size, 0, none⟩ = some (.int .u64 0) := cell_of_row _ _ _ _ _ _ Z1.out
  have Z1_1 : V6.cell? ⟨w.heap.size, 1, none⟩ = some (.int .u64 0) := cell_of_row _ _ _ _ _ _ Z1.out
  have Z1_f0 : V6.frozen? ⟨w.heap.size, 0, none⟩ = false := by simp [World.frozen?, Z1.out]
  have Z1_f1 : V6.frozen? ⟨w.heap.size, 1, none⟩ = false := by simp [World.frozen?, Z1.out]
  have Q1_0 : V6.cell? ⟨V5.heap.size, 0, none⟩ = some (.int .u64 (zh q)) := cell_of_row _ _ _ _ _ _ Q1.out
  have Q1_1 : V6.cell? ⟨V5.heap.size, 1, none⟩ = some (.int .u64 (zl q)) := cell_of_row _ _ _ _ _ _ Q1.out
  have Q1_f0 : V6.frozen? ⟨V5.heap.size, 0, none⟩ = false := by simp [World.frozen?, Q1.out]
  have Q1_f1 : V6.frozen? ⟨V5.heap.size, 1, none⟩ = false := by simp [World.frozen?, Q1.out]
  have zZ1 := lt_of_heap Z1.out
  have zQ1 := lt_of_heap Q1.out
  go_simp
  go_wp2
  all_goals
    refine shut_ret (v := .tuple #[.agg #[.int .u64 (zh (Q)), .int .u64 (zl (Q))], .int .i64 0, .int .i64 0]) (by simp [results, Tryd.results73, go_sem, Z1_0, Z1_1, zZ1, nlZ1Q1, nrZ1Q1]) rfl ⟨by rw [hsg.out], ?_⟩
    exact keep2 (keep2 B6.out (by have := B5.out.size; omega) _ _) (Nat.le_refl _) _ _
set_option maxHeartbeats 1600000 in
set_option maxRecDepth 100000 in
theorem floor_down (a b c : Int) (m1 m2 d q r s : Nat) (M : Int) (w : World)
    (H1 : Hid (∀ w, Calls Tryd.prog 76 #[.int .i64 c] w fun e w' => e = .returned (.int .u64 d) ∧ Below w.heap.size w w'))
    (H2 : Hid (∀ w, Calls Tryd.prog 76 #[.int .i64 a] w fun e w' => e = .returned (.int .u64 m1) ∧ Below w.heap.size w w'))
    (H3 : Hid (∀ w, Calls Tryd.prog 76 #[.int .i64 b] w fun e w' => e = .returned (.int .u64 m2) ∧ Below w.heap.size w w'))
    (H4 : Hid (∀ w, Calls Tryd.prog 78 #[.int .u64 m1, .int .u64 m2] w fun e w' => e = .returned (.agg #[.int .u64 (zh M), .int .u64 (zl M)]) ∧ Below w.heap.size w w'))
    (H5 : Hid (∀ w, Calls Tryd.prog 77 #[.agg #[.int .u64 (zh M), .int .u64 (zl M)], .int .u64 d] w fun e w' => e = .returned (.tuple #[.agg #[.int .u64 (zh q), .int .u64 (zl q)], .int .u64 r, .int .i64 0]) ∧ Below w.heap.size w w'))
    (x y z p : Bool) (da : decide (a < 0) = x) (db : decide (b < 0) = y) (dc : decide (c < 0) = z) (e1 : (x == y) = p) (h63 : s < 9223372036854775808) (e2 : ((!p) == z) = false) (hr : ¬ r = 0) (f : IntKind.u64.wrap ((d : Int) - (r : Int)) = (s : Int)) (q1 Q : Int) (o : Bool)
    (H6 : Hid (∀ w, Calls Tryd.prog 70 #[.int .i64 1] w fun e w' => e = .returned (.agg #[.int .u64 (zh 1), .int .u64 (zl 1)]) ∧ Below w.heap.size w w'))
    (H7 : Hid (∀ w, Calls Tryd.prog 69 #[.agg #[.int .u64 (zh q), .int .u64 (zl q)], .agg #[.int .u64 (zh 1), .int .u64 (zl 1)]] w fun e w' => e = .returned (.tuple #[.agg #[.int .u64 (zh q1), .int .u64 (zl q1)], .bool o]) ∧ Below w.heap.size w w'))
    (H8 : Hid (∀ w, Calls Tryd.prog 79 #[.agg #[.int .u64 (zh q1), .int .u64 (zl q1)]] w fun e w' => e = .returned (.agg #[.int .u64 (zh Q), .int .u64 (zl Q)]) ∧ Below w.heap.size w w')) :
    Calls Tryd.prog 73 #[.int .i64 a, .int .i64 b, .int .i64 c] w fun e w' => e = .returned (.tuple #[.agg #[.int .u64 (zh (Q)), .int .u64 (zl (Q))], .int .i64 (sg c s), .int .i64 0]) ∧ Below w.heap.size w w' := by
  have k1 := wneg s h63
  have k2 := wpos s h63
  have K1 := Lib.hid k1
  have K2 := Lib.hid k2
  have K3 := Lib.hid (@sg_neg c s)
  have K4 := Lib.hid (@sg_pos c s)
  clear k1 k2 h63
  go_enter Tryd.func73, Tryd.ntmps73
  refine wp_shut ?_
  go_wp2_with fail
  
  refine (H1.out _).mono ?_
  rintro e V1 ⟨rfl, hb1⟩
  have B1 := Lib.hid (((Below.refl w.heap.size w).alloc (Nat.le_refl _) _).trans (hb1.mono (by first | assumption | (simp <;> omega) | (simp; done))))
  have Z1 := Lib.hid (row_call hb1 (heap_alloc_new _ _))
  clear hb1
  have Z1_0 : V1.cell? ⟨w.heap.size, 0, none⟩ = some (.int .u64 0) := cell_of_row _ _ _ _ _ _ Z1.out
  have Z1_1 : V1.cell? ⟨w.heap.size, 1, none⟩ = some (.int .u64 0) := cell_of_row _ _ _ _ _ _ Z1.out
  have Z1_f0 : V1.frozen? ⟨w.heap.size, 0, none⟩ = false := by simp [World.frozen?, Z1.out]
  have Z1_f1 : V1.frozen? ⟨w.heap.size, 1, none⟩ = false := by simp [World.frozen?, Z1.out]
  have zZ1 := lt_of_heap Z1.out
  go_simp
  go_wp2_with fail
  refine (H2.out _).mono ?_
  rintro e V2 ⟨rfl, hb2⟩
  clear Z1_0 Z1_1 Z1_f0 Z1_f1 zZ1
  have B2 : Hid (Below w.heap.size w V2) := by first | exact Lib.hid ((B1.out).trans (hb2.mono (by have := B1.out.size; first | assumption | (simp <;> omega) | (simp; done)))) | exact Lib.hid (((B1.out).alloc (B1.out.size) _).trans (hb2.mono (by have := B1.out.size; first | assumption | (simp <;> omega) | (simp; done)))) | exact Lib.hid ((((B1.out).alloc (B1.out.size) _).alloc (by have := B1.out.size; simp <;> omega) _).trans (hb2.mono (by have := B1.out.size; first | assumption | (simp <;> omega) | (simp; done)))) | exact Lib.hid (((((B1.out).alloc (B1.out.size) _).alloc (by have := B1.out.size; simp <;> omega) _).alloc (by have := B1.out.size; simp <;> omega) _).trans (hb2.mono (by have := B1.out.size; first | assumption | (simp <;> omega) | (simp; done))))
  first | replace Z1 := Lib.hid (row_call hb2 Z1.out) | replace Z1 := Lib.hid (row_call hb2 (row_alloc Z1.out _)) | replace Z1 := Lib.hid (row_call hb2 (row_alloc (row_alloc Z1.out _) _)) | replace Z1 := Lib.hid (row_call hb2 (row_alloc (row_alloc (row_alloc Z1.out _) _) _))
  clear hb2
  have Z1_0 : V2.cell? ⟨w.heap.size, 0, none⟩ = some (.int .u64 0) := cell_of_row _ _ _ _ _ _ Z1.out
  have Z1_1 : V2.cell? ⟨w.heap.size, 1, none⟩ = some (.int .u64 0) := cell_of_row _ _ _ _ _ _ Z1.out
  have Z1_f0 : V2.frozen? ⟨w.heap.size, 0, none⟩ = false := by simp [World.frozen?, Z1.out]
  have Z1_f1 : V2.frozen? ⟨w.heap.size, 1, none⟩ = false := by simp [World.frozen?, Z1.out]
  have zZ1 := lt_of_heap Z1.out
  go_simp
  go_wp2_with fail
  refine (H3.out _).mono ?_
  rintro e V3 ⟨rfl, hb3⟩
  clear Z1_0 Z1_1 Z1_f0 Z1_f1 zZ1
  have B3 : Hid (Below w.heap.size w V3) := by first | exact Lib.hid ((B2.out).trans (hb3.mono (by have := B2.out.size; first | assumption | (simp <;> omega) | (simp; done)))) | exact Lib.hid (((B2.out).alloc (B2.out.size) _).trans (hb3.mono (by have := B2.out.size; first | assumption | (simp <;> omega) | (simp; done)))) | exact Lib.hid ((((B2.out).alloc (B2.out.size) _).alloc (by have := B2.out.size; simp <;> omega) _).trans (hb3.mono (by have := B2.out.size; first | assumption | (simp <;> omega) | (simp; done)))) | exact Lib.hid (((((B2.out).alloc (B2.out.size) _).alloc (by have := B2.out.size; simp <;> omega) _).alloc (by have := B2.out.size; simp <;> omega) _).trans (hb3.mono (by have := B2.out.size; first | assumption | (simp <;> omega) | (simp; done))))
  first | replace Z1 := Lib.hid (row_call hb3 Z1.out) | replace Z1 := Lib.hid (row_call hb3 (row_alloc Z1.out _)) | replace Z1 := Lib.hid (row_call hb3 (row_alloc (row_alloc Z1.out _) _)) | replace Z1 := Lib.hid (row_call hb3 (row_alloc (row_alloc (row_alloc Z1.out _) _) _))
  clear hb3
  have Z1_0 : V3.cell? ⟨w.heap.size, 0, none⟩ = some (.int .u64 0) := cell_of_row _ _ _ _ _ _ Z1.out
  have Z1_1 : V3.cell? ⟨w.heap.size, 1, none⟩ = some (.int .u64 0) := cell_of_row _ _ _ _ _ _ Z1.out
  have Z1_f0 : V3.frozen? ⟨w.heap.size, 0, none⟩ = false := by simp [World.frozen?, Z1.out]
  have Z1_f1 : V3.frozen? ⟨w.heap.size, 1, none⟩ = false := by simp [World.frozen?, Z1.out]
  have zZ1 := lt_of_heap Z1.out
  go_simp
  go_wp2_with fail
  refine (H4.out _).mono ?_
  rintro e V4 ⟨rfl, hb4⟩
  clear Z1_0 Z1_1 Z1_f0 Z1_f1 zZ1
  have B4 : Hid (Below w.heap.size w V4) := by first | exact Lib.hid ((B3.out).trans (hb4.mono (by have := B3.out.size; first | assumption | (simp <;> omega) | (simp; done)))) | exact Lib.hid (((B3.out).alloc (B3.out.size) _).trans (hb4.mono (by have := B3.out.size; first | assumption | (simp <;> omega) | (simp; done)))) | exact Lib.hid ((((B3.out).alloc (B3.out.size) _).alloc (by have := B3.out.size; simp <;> omega) _).trans (hb4.mono (by have := B3.out.size; first | assumption | (simp <;> omega) | (simp; done)))) | exact Lib.hid (((((B3.out).alloc (B3.out.size) _).alloc (by have := B3.out.size; simp <;> omega) _).alloc (by have := B3.out.size; simp <;> omega) _).trans (hb4.mono (by have := B3.out.size; first | assumption | (simp <;> omega) | (simp; done))))
  first | replace Z1 := Lib.hid (row_call hb4 Z1.out) | replace Z1 := Lib.hid (row_call hb4 (row_alloc Z1.out _)) | replace Z1 := Lib.hid (row_call hb4 (row_alloc (row_alloc Z1.out _) _)) | replace Z1 := Lib.hid (row_call hb4 (row_alloc (row_alloc (row_alloc Z1.out _) _) _))
  clear hb4
  have Z1_0 : V4.cell? ⟨w.heap.size, 0, none⟩ = some (.int .u64 0) := cell_of_row _ _ _ _ _ _ Z1.out
  have Z1_1 : V4.cell? ⟨w.heap.size, 1, none⟩ = some (.int .u64 0) := cell_of_row _ _ _ _ _ _ Z1.out
  have Z1_f0 : V4.frozen? ⟨w.heap.size, 0, none⟩ = false := by simp [World.frozen?, Z1.out]
  have Z1_f1 : V4.frozen? ⟨w.heap.size, 1, none⟩ = false := by simp [World.frozen?, Z1.out]
  have zZ1 := lt_of_heap Z1.out
  go_simp
  go_wp2_with fail
  have hr1 : ¬ ((r : Int) = 0) := by omega
  refine (H5.out _).mono ?_
  rintro e V5 ⟨rfl, hb5⟩
  clear Z1_0 Z1_1 Z1_f0 Z1_f1 zZ1
  have B5 : Hid (Below w.heap.size w V5) := by first | exact Lib.hid ((B4.out).trans (hb5.mono (by have := B4.out.size; first | assumption | (simp <;> omega) | (simp; done)))) | exact Lib.hid (((B4.out).alloc (B4.out.size) _).trans (hb5.mono (by have := B4.out.size; first | assumption | (simp <;> omega) | (simp; done)))) | exact Lib.hid ((((B4.out).alloc (B4.out.size) _).alloc (by have := B4.out.size; simp <;> omega) _).trans (hb5.mono (by have := B4.out.size; first | assumption | (simp <;> omega) | (simp; done)))) | exact Lib.hid (((((B4.out).alloc (B4.out.size) _).alloc (by have := B4.out.size; simp <;> omega) _).alloc (by have := B4.out.size; simp <;> omega) _).trans (hb5.mono (by have := B4.out.size; first | assumption | (simp <;> omega) | (simp; done))))
  first | replace Z1 := Lib.hid (row_call hb5 Z1.out) | replace Z1 := Lib.hid (row_call hb5 (row_alloc Z1.out _)) | replace Z1 := Lib.hid (row_call hb5 (row_alloc (row_alloc Z1.out _) _)) | replace Z1 := Lib.hid (row_call hb5 (row_alloc (row_alloc (row_alloc Z1.out _) _) _))
  clear hb5
  have Z1_0 : V5.cell? ⟨w.heap.size, 0, none⟩ = some (.int .u64 0) := cell_of_row _ _ _ _ _ _ Z1.out
  have Z1_1 : V5.cell? ⟨w.heap.size, 1, none⟩ = some (.int .u64 0) := cell_of_row _ _ _ _ _ _ Z1.out
  have Z1_f0 : V5.frozen? ⟨w.heap.size, 0, none⟩ = false := by simp [World.frozen?, Z1.out]
  have Z1_f1 : V5.frozen? ⟨w.heap.size, 1, none⟩ = false := by simp [World.frozen?, Z1.out]
  have zZ1 := lt_of_heap Z1.out
  have hk5 := Lib.hid (lt_of_heap Z1.out)
  obtain ⟨W0, hW0⟩ : ∃ W0, W0 = V5.alloc (Obj.cells #[Value.int .u64 (zh q), Value.int .u64 (zl q)] 66) := ⟨_, rfl⟩
  have Q1 := Lib.hid (row_by hW0 (heap_alloc_new _ _))
  replace Z1 := Lib.hid (row_by hW0 (row_alloc Z1.out _))
  have HB0 := Lib.hid (below_by hW0 (B5.out.alloc B5.out.size _))
  have HW0 := Lib.hid hW0
  clear hW0 Z1_0 Z1_1 Z1_f0 Z1_f1 zZ1
  have q0 : W0.cell? ⟨V5.heap.size, 0, none⟩ = some (.int .u64 (zh q)) := cell_of_row _ _ _ _ _ _ Q1.out
  have q1' : W0.cell? ⟨V5.heap.size, 1, none⟩ = some (.int .u64 (zl q)) := cell_of_row _ _ _ _ _ _ Q1.out
  go_simp
  go_wp2_with fail
  rw [← HW0.out]
  go_region_with (first
    | (go_at_call 70; refine (H6.out _).mono ?_; rintro e V6 ⟨rfl, hb6⟩; have hb6' := Lib.hid ((Below.refl W0.heap.size W0).drew.trans hb6); have Zr := Lib.hid (row_call hb6'.out Z1.out); have Qr := Lib.hid (row_call hb6'.out Q1.out); have Br := Lib.hid (HB0.out.trans (hb6'.out.mono HB0.out.size)); clear hb6; have q2 : V6.cell? ⟨V5.heap.size, 0, none⟩ = some (.int .u64 (zh q)) := cell_of_row _ _ _ _ _ _ Qr.out; have q3 : V6.cell? ⟨V5.heap.size, 1, none⟩ = some (.int .u64 (zl q)) := cell_of_row _ _ _ _ _ _ Qr.out)
    | (go_at_call 69; refine (H7.out _).mono ?_; rintro e V7 ⟨rfl, hb7⟩; have Z7 := Lib.hid (row_call hb7 Zr.out); have Q7 := Lib.hid (row_call hb7 Qr.out); have B7 := Lib.hid (Br.out.trans (hb7.mono Br.out.size)); clear hb7; have q4 : V7.cell? ⟨V5.heap.size, 0, none⟩ = some (.int .u64 (zh q)) := cell_of_row _ _ _ _ _ _ Q7.out; have q5 : V7.cell? ⟨V5.heap.size, 1, none⟩ = some (.int .u64 (zl q)) := cell_of_row _ _ _ _ _ _ Q7.out; have q6 : V7.frozen? ⟨V5.heap.size, 0, none⟩ = false := (by simp [World.frozen?, Q7.out]); have q7 : V7.frozen? ⟨V5.heap.size, 1, none⟩ = false := (by simp [World.frozen?, Q7.out])))
  all_goals
    go_wp2_with fail
    refine (H8.out _).mono ?_
    rintro e V8 ⟨rfl, hb8⟩
    have B8 := Lib.hid ((keep2 B7.out B5.out.size _ _).trans (hb8.mono (by have := B7.out.size; simp; omega)))
    have Z8 := Lib.hid (row_call hb8 (row_other (by have := hk5.out; omega) Z7.out _ _))
    have Q8 := Lib.hid (row_call hb8 (row_set Q7.out _ _))
    clear hb8
    have nl : ¬ (w.heap.size = V5.heap.size) := Nat.ne_of_lt hk5.out
    have nr : ¬ (V5.heap.size = w.heap.size) := Ne.symm (Nat.ne_of_lt hk5.out)
    have a0 : V8.cell? ⟨w.heap.size, 0, none⟩ = some (.int .u64 0) := cell_of_row _ _ _ _ _ _ Z8.out
    have a1 : V8.cell? ⟨w.heap.size, 1, none⟩ = some (.int .u64 0) := cell_of_row _ _ _ _ _ _ Z8.out
    have a2 : V8.frozen? ⟨w.heap.size, 0, none⟩ = false := by simp [World.frozen?, Z8.out]
    have a3 : V8.frozen? ⟨w.heap.size, 1, none⟩ = false := by simp [World.frozen?, Z8.out]
    have b0 : V8.cell? ⟨V5.heap.size, 0, none⟩ = some (.int .u64 (zh q1)) := cell_of_row _ _ _ _ _ _ Q8.out
    have b1 : V8.cell? ⟨V5.heap.size, 1, none⟩ = some (.int .u64 (zl q1)) := cell_of_row _ _ _ _ _ _ Q8.out
    have b2 : V8.frozen? ⟨V5.heap.size, 0, none⟩ = false := by simp [World.frozen?, Q8.out]
    have b3 : V8.frozen? ⟨V5.heap.size, 1, none⟩ = false := by simp [World.frozen?, Q8.out]
    have z8 := lt_of_heap Z8.out
    have z9 := lt_of_heap Q8.out
    clear q0 q1' q2 q3 q4 q5 q6 q7
    go_simp
    go_wp2
    · rename_i hc
      refine shut_ret (v := .tuple #[.agg #[.int .u64 (zh (Q)), .int .u64 (zl (Q))], .int .i64 (wrap64 (-wrap64 (s : Int))), .int .i64 0]) (by simp [results, Tryd.results73, go_sem, a0, a1, z8, nl, nr]) rfl ⟨by rw [K1.out, K3.out (of_decide_eq_true (dc.trans hc))], ?_⟩
      exact keep2 (keep2 B8.out (by have := B5.out.size; omega) _ _) (Nat.le_refl _) _ _
    · rename_i hc
      refine shut_ret (v := .tuple #[.agg #[.int .u64 (zh (Q)), .int .u64 (zl (Q))], .int .i64 (wrap64 (s : Int)), .int .i64 0]) (by simp [results, Tryd.results73, go_sem, a0, a1, z8, nl, nr]) rfl ⟨by rw [K2.out, K4.out (by have := of_decide_eq_false (dc.trans (by simpa using hc)); omega)], ?_⟩
      exact keep2 (keep2 B8.out (by have := B5.out.size; omega) _ _) (Nat.le_refl _) _ _
end Go.Proofs.YtoopbgpoelpjfaaDoor
namespace Go.Proofs.YtoopbgpoelpjfaaDoor
set_option linter.unusedVariables false
set_option linter.unusedSimpArgs false
open Go.ChangeShapes Go.WideShapes Go.ChangeAt Go.RowKit
theorem ediv_uniq {n d k r : Int} (hd : 0 < d) (h : n = d * k + r) (h0 : 0 ≤ r) (h1 : r < d) : n / d = k :=
  ((Int.ediv_emod_unique hd).2 ⟨by omega, h0, h1⟩).1
theorem neg_div0 {m d : Nat} (hd : 0 < d) (h : m % d = 0) : -(m : Int) / (d : Int) = -((m / d : Nat) : Int) := by
  have e := Nat.div_add_mod m d
  refine ediv_uniq (r := 0) (by omega) ?_ (by omega) (by omega)
  rw [Int.mul_neg]
  have : ((d * (m / d) : Nat) : Int) = (d : Int) * ((m / d : Nat) : Int) := Int.natCast_mul _ _
  omega
theorem neg_div1 {m d : Nat} (hd : 0 < d) (h : ¬ m % d = 0) : -(m : Int) / (d : Int) = -(((m / d : Nat) : Int) + 1) := by
  have e := Nat.div_add_mod m d
  have hr := Nat.mod_lt m hd
  refine ediv_uniq (r := (d : Int) - ((m % d : Nat) : Int)) (by omega) ?_ (by omega) (by omega)
  rw [Int.mul_neg, Int.mul_add, Int.mul_one]
  have : ((d * (m / d) : Nat) : Int) = (d : Int) * ((m / d : Nat) : Int) := Int.natCast_mul _ _
  omega
structure SG (n c : Int) (m d : Nat) (p z : Bool) : Prop where
  n1 : p = true → n = (m : Int)
  n0 : p = false → n = -(m : Int)
  c1 : z = true → c = -(d : Int)
  c0 : z = false → c = (d : Int)
  d : 0 < d
theorem SG.up {n c : Int} {m d : Nat} {p z : Bool} (h : SG n c m d p z) (e : ((!p) == z) = true) : fq n c = ((m / d : Nat) : Int) ∧ fr n c = sg c (m % d) := by
  have hd := h.d
  have e1 := Nat.div_add_mod m d
  have e2 : ((d * (m / d) : Nat) : Int) = (d : Int) * ((m / d : Nat) : Int) := Int.natCast_mul _ _
  have e3 : ((m / d : Nat) : Int) = (m : Int) / (d : Int) := Int.natCast_ediv _ _
  cases p <;> cases z
  · cases e
  · have hn := h.n0 rfl; have hc := h.c1 rfl
    have q : fq n c = ((m / d : Nat) : Int) := by unfold fq; rw [hn, hc, if_neg (by omega), Int.neg_neg, Int.neg_neg, e3]
    refine ⟨q, ?_⟩
    unfold fr sg
    rw [q, hn, hc, if_pos (by omega), Int.neg_mul]
    omega
  · have hn := h.n1 rfl; have hc := h.c0 rfl
    have q : fq n c = ((m / d : Nat) : Int) := by unfold fq; rw [hn, hc, if_pos (by omega), e3]
    refine ⟨q, ?_⟩
    unfold fr sg
    rw [q, hn, hc, if_neg (by omega)]
    omega
  · cases e
theorem SG.zero {n c : Int} {m d : Nat} {p z : Bool} (h : SG n c m d p z) (e : ((!p) == z) = false) (hr : m % d = 0) : fq n c = -((m / d : Nat) : Int) ∧ fr n c = sg c (m % d) := by
  have hd := h.d
  have e1 := Nat.div_add_mod m d
  have e2 : ((d * (m / d) : Nat) : Int) = (d : Int) * ((m / d : Nat) : Int) := Int.natCast_mul _ _
  have e3 := neg_div0 hd hr
  cases p <;> cases z
  · have hn := h.n0 rfl; have hc := h.c0 rfl
    have q : fq n c = -((m / d : Nat) : Int) := by unfold fq; rw [hn, hc, if_pos (by omega), e3]
    refine ⟨q, ?_⟩
    unfold fr sg
    rw [q, hn, hc, if_neg (by omega), Int.mul_neg]
    omega
  · cases e
  · cases e
  · have hn := h.n1 rfl; have hc := h.c1 rfl
    have q : fq n c = -((m / d : Nat) : Int) := by unfold fq; rw [hn, hc, if_neg (by omega), Int.neg_neg, e3]
    refine ⟨q, ?_⟩
    unfold fr sg
    rw [q, hn, hc, if_pos (by omega), Int.neg_mul_neg]
    omega
theorem SG.down {n c : Int} {m d : Nat} {p z : Bool} (h : SG n c m d p z) (e : ((!p) == z) = false) (hr : ¬ m % d = 0) : fq n c = -(((m / d : Nat) : Int) + 1) ∧ fr n c = sg c (d - m % d) := by
  have hd := h.d
  have e1 := Nat.div_add_mod m d
  have e4 := Nat.mod_lt m hd
  have e2 : ((d * (m / d) : Nat) : Int) = (d : Int) * ((m / d : Nat) : Int) := Int.natCast_mul _ _
  have e3 := neg_div1 hd hr
  cases p <;> cases z
  · have hn := h.n0 rfl; have hc := h.c0 rfl
    have q : fq n c = -(((m / d : Nat) : Int) + 1) := by unfold fq; rw [hn, hc, if_pos (by omega), e3]
    refine ⟨q, ?_⟩
    unfold fr sg
    rw [q, hn, hc, if_neg (by omega), Int.mul_neg, Int.mul_add, Int.mul_one]
    omega
  · cases e
  · cases e
  · have hn := h.n1 rfl; have hc := h.c1 rfl
    have q : fq n c = -(((m / d : Nat) : Int) + 1) := by unfold fq; rw [hn, hc, if_neg (by omega), Int.neg_neg, e3]
    refine ⟨q, ?_⟩
    unfold fr sg
    rw [q, hn, hc, if_pos (by omega), Int.neg_mul_neg, Int.mul_add, Int.mul_one]
    omega
theorem SG.of_prod {a b c : Int} (hc : c ≠ 0) : SG (a * b) c (a.natAbs * b.natAbs) c.natAbs (decide (a < 0) == decide (b < 0)) (decide (c < 0)) :=
  ⟨fun h => (mul_same (by simpa using h)).symm, fun h => (mul_diff (by cases h1 : decide (a < 0) <;> cases h2 : decide (b < 0) <;> simp_all)).symm, fun h => by have := of_decide_eq_true h; omega, fun h => by have := of_decide_eq_false h; omega, by omega⟩
theorem prod_U {a b : Int} (ba : in64 a) (bb : in64 b) : a.natAbs * b.natAbs ≤ 85070591730234615865843651857942052864 := by
  have h1 : a.natAbs * b.natAbs ≤ 9223372036854775808 * 9223372036854775808 := by
    unfold in64 at ba bb
    exact Nat.mul_le_mul (by omega) (by omega)
  exact h1
theorem floor_any (a b c : Int) (ba : in64 a) (bb : in64 b) (bc : in64 c) (hc : c ≠ 0) (w : World) :
    Calls Tryd.prog 73 #[.int .i64 a, .int .i64 b, .int .i64 c] w fun e w' => e = .returned (.tuple #[.agg #[.int .u64 (zh (fq (a * b) c)), .int .u64 (zl (fq (a * b) c))], .int .i64 (fr (a * b) c), .int .i64 0]) ∧ Below w.heap.size w w' := by
  have S := SG.of_prod (a := a) (b := b) hc
  have hM := prod_U ba bb
  have hd : 0 < c.natAbs := by omega
  have hd2 : c.natAbs ≤ 9223372036854775808 := by unfold in64 at bc; omega
  have H1 := Lib.hid (zAmt_any c bc)
  have H2 := Lib.hid (zAmt_any a ba)
  have H3 := Lib.hid (zAmt_any b bb)
  have H4 := Lib.hid (zMul_any a.natAbs b.natAbs (natAbs_U ba) (natAbs_U bb))
  have H5 := Lib.hid (zDiv_any (a.natAbs * b.natAbs) c.natAbs (by omega) (natAbs_U bc) hd)
  generalize a.natAbs * b.natAbs = M at *
  generalize c.natAbs = d at *
  have hrd := Nat.mod_lt M hd
  by_cases e2 : ((!(decide (a < 0) == decide (b < 0))) == decide (c < 0)) = true
  · obtain ⟨x1, x2⟩ := S.up e2
    rw [x1, x2]
    exact floor_up a b c a.natAbs b.natAbs d (M / d) (M % d) M w H1 H2 H3 H4 H5 _ _ _ _ rfl rfl rfl rfl (by omega) e2
  · rw [Bool.not_eq_true] at e2
    by_cases hr : M % d = 0
    · obtain ⟨x1, x2⟩ := S.zero e2 hr
      rw [x1, x2]
      exact floor_zero a b c a.natAbs b.natAbs d (M / d) (M % d) M w H1 H2 H3 H4 H5 _ _ _ _ rfl rfl rfl rfl (by omega) e2 hr _ (Lib.hid (zNeg_any _))
    · obtain ⟨x1, x2⟩ := S.down e2 hr
      rw [x1, x2]
      exact floor_down a b c a.natAbs b.natAbs d (M / d) (M % d) (d - M % d) M w H1 H2 H3 H4 H5 _ _ _ _ rfl rfl rfl rfl (by omega) e2 hr (by rw [IntKind.wrap_u64]; omega) _ _ _ (Lib.hid (zOf_any 1 (by unfold in64; omega))) (Lib.hid (zAdd_any _ 1)) (Lib.hid (zNeg_any _))
set_option maxHeartbeats 800000 in
set_option maxRecDepth 100000 in
theorem floor_none (a b : Int) (ba : in64 a) (bb : in64 b) (w : World) :
    Calls Tryd.prog 73 #[.int .i64 a, .int .i64 b, .int .i64 0] w fun e w' => e = .returned (.tuple #[.agg #[.int .u64 0, .int .u64 0], .int .i64 0, .int .i64 5]) ∧ Below w.heap.size w w' := by
  have H1 := Lib.hid (zAmt_any 0 (by unfold in64; omega))
  have H2 := Lib.hid (zAmt_any a ba)
  have H3 := Lib.hid (zAmt_any b bb)
  have H4 := Lib.hid (zMul_any a.natAbs b.natAbs (natAbs_U ba) (natAbs_U bb))
  have H5 := Lib.hid (zDiv_zero ((a.natAbs * b.natAbs : Nat) : Int))
  generalize ((a.natAbs * b.natAbs : Nat) : Int) = M at *
  generalize a.natAbs = m1 at *
  generalize b.natAbs = m2 at *
  clear ba bb
  go_enter Tryd.func73, Tryd.ntmps73
  refine wp_shut ?_
  go_wp2_with fail
  
  refine (H1.out _).mono ?_
  rintro e V1 ⟨rfl, hb1⟩
  have B1 := Lib.hid (((Below.refl w.heap.size w).alloc (Nat.le_refl _) _).trans (hb1.mono (by first | assumption | (simp <;> omega) | (simp; done))))
  have Z1 := Lib.hid (row_call hb1 (heap_alloc_new _ _))
  clear hb1
  have Z1_0 : V1.cell? ⟨w.heap.size, 0, none⟩ = some (.int .u64 0) := cell_of_row _ _ _ _ _ _ Z1.out
  have Z1_1 : V1.cell? ⟨w.heap.size, 1, none⟩ = some (.int .u64 0) := cell_of_row _ _ _ _ _ _ Z1.out
  have Z1_f0 : V1.frozen? ⟨w.heap.size, 0, none⟩ = false := by simp [World.frozen?, Z1.out]
  have Z1_f1 : V1.frozen? ⟨w.heap.size, 1, none⟩ = false := by simp [World.frozen?, Z1.out]
  have zZ1 := lt_of_heap Z1.out
  go_simp
  go_wp2_with fail
  refine (H2.out _).mono ?_
  rintro e V2 ⟨rfl, hb2⟩
  clear Z1_0 Z1_1 Z1_f0 Z1_f1 zZ1
  have B2 : Hid (Below w.heap.size w V2) := by first | exact Lib.hid ((B1.out).trans (hb2.mono (by have := B1.out.size; first | assumption | (simp <;> omega) | (simp; done)))) | exact Lib.hid (((B1.out).alloc (B1.out.size) _).trans (hb2.mono (by have := B1.out.size; first | assumption | (simp <;> omega) | (simp; done)))) | exact Lib.hid ((((B1.out).alloc (B1.out.size) _).alloc (by have := B1.out.size; simp <;> omega) _).trans (hb2.mono (by have := B1.out.size; first | assumption | (simp <;> omega) | (simp; done)))) | exact Lib.hid (((((B1.out).alloc (B1.out.size) _).alloc (by have := B1.out.size; simp <;> omega) _).alloc (by have := B1.out.size; simp <;> omega) _).trans (hb2.mono (by have := B1.out.size; first | assumption | (simp <;> omega) | (simp; done))))
  first | replace Z1 := Lib.hid (row_call hb2 Z1.out) | replace Z1 := Lib.hid (row_call hb2 (row_alloc Z1.out _)) | replace Z1 := Lib.hid (row_call hb2 (row_alloc (row_alloc Z1.out _) _)) | replace Z1 := Lib.hid (row_call hb2 (row_alloc (row_alloc (row_alloc Z1.out _) _) _))
  clear hb2
  have Z1_0 : V2.cell? ⟨w.heap.size, 0, none⟩ = some (.int .u64 0) := cell_of_row _ _ _ _ _ _ Z1.out
  have Z1_1 : V2.cell? ⟨w.heap.size, 1, none⟩ = some (.int .u64 0) := cell_of_row _ _ _ _ _ _ Z1.out
  have Z1_f0 : V2.frozen? ⟨w.heap.size, 0, none⟩ = false := by simp [World.frozen?, Z1.out]
  have Z1_f1 : V2.frozen? ⟨w.heap.size, 1, none⟩ = false := by simp [World.frozen?, Z1.out]
  have zZ1 := lt_of_heap Z1.out
  go_simp
  go_wp2_with fail
  refine (H3.out _).mono ?_
  rintro e V3 ⟨rfl, hb3⟩
  clear Z1_0 Z1_1 Z1_f0 Z1_f1 zZ1
  have B3 : Hid (Below w.heap.size w V3) := by first | exact Lib.hid ((B2.out).trans (hb3.mono (by have := B2.out.size; first | assumption | (simp <;> omega) | (simp; done)))) | exact Lib.hid (((B2.out).alloc (B2.out.size) _).trans (hb3.mono (by have := B2.out.size; first | assumption | (simp <;> omega) | (simp; done)))) | exact Lib.hid ((((B2.out).alloc (B2.out.size) _).alloc (by have := B2.out.size; simp <;> omega) _).trans (hb3.mono (by have := B2.out.size; first | assumption | (simp <;> omega) | (simp; done)))) | exact Lib.hid (((((B2.out).alloc (B2.out.size) _).alloc (by have := B2.out.size; simp <;> omega) _).alloc (by have := B2.out.size; simp <;> omega) _).trans (hb3.mono (by have := B2.out.size; first | assumption | (simp <;> omega) | (simp; done))))
  first | replace Z1 := Lib.hid (row_call hb3 Z1.out) | replace Z1 := Lib.hid (row_call hb3 (row_alloc Z1.out _)) | replace Z1 := Lib.hid (row_call hb3 (row_alloc (row_alloc Z1.out _) _)) | replace Z1 := Lib.hid (row_call hb3 (row_alloc (row_alloc (row_alloc Z1.out _) _) _))
  clear hb3
  have Z1_0 : V3.cell? ⟨w.heap.size, 0, none⟩ = some (.int .u64 0) := cell_of_row _ _ _ _ _ _ Z1.out
  have Z1_1 : V3.cell? ⟨w.heap.size, 1, none⟩ = some (.int .u64 0) := cell_of_row _ _ _ _ _ _ Z1.out
  have Z1_f0 : V3.frozen? ⟨w.heap.size, 0, none⟩ = false := by simp [World.frozen?, Z1.out]
  have Z1_f1 : V3.frozen? ⟨w.heap.size, 1, none⟩ = false := by simp [World.frozen?, Z1.out]
  have zZ1 := lt_of_heap Z1.out
  go_simp
  go_wp2_with fail
  refine (H4.out _).mono ?_
  rintro e V4 ⟨rfl, hb4⟩
  clear Z1_0 Z1_1 Z1_f0 Z1_f1 zZ1
  have B4 : Hid (Below w.heap.size w V4) := by first | exact Lib.hid ((B3.out).trans (hb4.mono (by have := B3.out.size; first | assumption | (simp <;> omega) | (simp; done)))) | exact Lib.hid (((B3.out).alloc (B3.out.size) _).trans (hb4.mono (by have := B3.out.size; first | assumption | (simp <;> omega) | (simp; done)))) | exact Lib.hid ((((B3.out).alloc (B3.out.size) _).alloc (by have := B3.out.size; simp <;> omega) _).trans (hb4.mono (by have := B3.out.size; first | assumption | (simp <;> omega) | (simp; done)))) | exact Lib.hid (((((B3.out).alloc (B3.out.size) _).alloc (by have := B3.out.size; simp <;> omega) _).alloc (by have := B3.out.size; simp <;> omega) _).trans (hb4.mono (by have := B3.out.size; first | assumption | (simp <;> omega) | (simp; done))))
  first | replace Z1 := Lib.hid (row_call hb4 Z1.out) | replace Z1 := Lib.hid (row_call hb4 (row_alloc Z1.out _)) | replace Z1 := Lib.hid (row_call hb4 (row_alloc (row_alloc Z1.out _) _)) | replace Z1 := Lib.hid (row_call hb4 (row_alloc (row_alloc (row_alloc Z1.out _) _) _))
  clear hb4
  have Z1_0 : V4.cell? ⟨w.heap.size, 0, none⟩ = some (.int .u64 0) := cell_of_row _ _ _ _ _ _ Z1.out
  have Z1_1 : V4.cell? ⟨w.heap.size, 1, none⟩ = some (.int .u64 0) := cell_of_row _ _ _ _ _ _ Z1.out
  have Z1_f0 : V4.frozen? ⟨w.heap.size, 0, none⟩ = false := by simp [World.frozen?, Z1.out]
  have Z1_f1 : V4.frozen? ⟨w.heap.size, 1, none⟩ = false := by simp [World.frozen?, Z1.out]
  have zZ1 := lt_of_heap Z1.out
  go_simp
  go_wp2_with fail
  refine (H5.out _).mono ?_
  rintro e V5 ⟨rfl, hb5⟩
  clear Z1_0 Z1_1 Z1_f0 Z1_f1 zZ1
  have B5 : Hid (Below w.heap.size w V5) := by first | exact Lib.hid ((B4.out).trans (hb5.mono (by have := B4.out.size; first | assumption | (simp <;> omega) | (simp; done)))) | exact Lib.hid (((B4.out).alloc (B4.out.size) _).trans (hb5.mono (by have := B4.out.size; first | assumption | (simp <;> omega) | (simp; done)))) | exact Lib.hid ((((B4.out).alloc (B4.out.size) _).alloc (by have := B4.out.size; simp <;> omega) _).trans (hb5.mono (by have := B4.out.size; first | assumption | (simp <;> omega) | (simp; done)))) | exact Lib.hid (((((B4.out).alloc (B4.out.size) _).alloc (by have := B4.out.size; simp <;> omega) _).alloc (by have := B4.out.size; simp <;> omega) _).trans (hb5.mono (by have := B4.out.size; first | assumption | (simp <;> omega) | (simp; done))))
  first | replace Z1 := Lib.hid (row_call hb5 Z1.out) | replace Z1 := Lib.hid (row_call hb5 (row_alloc Z1.out _)) | replace Z1 := Lib.hid (row_call hb5 (row_alloc (row_alloc Z1.out _) _)) | replace Z1 := Lib.hid (row_call hb5 (row_alloc (row_alloc (row_alloc Z1.out _) _) _))
  clear hb5
  have Z1_0 : V5.cell? ⟨w.heap.size, 0, none⟩ = some (.int .u64 0) := cell_of_row _ _ _ _ _ _ Z1.out
  have Z1_1 : V5.cell? ⟨w.heap.size, 1, none⟩ = some (.int .u64 0) := cell_of_row _ _ _ _ _ _ Z1.out
  have Z1_f0 : V5.frozen? ⟨w.heap.size, 0, none⟩ = false := by simp [World.frozen?, Z1.out]
  have Z1_f1 : V5.frozen? ⟨w.heap.size, 1, none⟩ = false := by simp [World.frozen?, Z1.out]
  have zZ1 := lt_of_heap Z1.out
  go_simp
  go_wp2
  refine shut_ret (v := .tuple #[.agg #[.int .u64 0, .int .u64 0], .int .i64 0, .int .i64 5]) (by simp [results, Tryd.results73, go_sem, Z1_0, Z1_1, zZ1]) rfl ⟨rfl, ?_⟩
  first
  | exact (keep2 B5.out (Nat.le_refl _) _ _).alloc (by have := B5.out.size; simp; omega) _
  | exact keep2 (B5.out.alloc B5.out.size _) (Nat.le_refl _) _ _
end Go.Proofs.YtoopbgpoelpjfaaDoor
namespace Go.Proofs.YtoopbgpoelpjfaaDoor
set_option linter.unusedVariables false
set_option linter.unusedSimpArgs false
open Go.ChangeShapes Go.WideShapes Go.ChangeAt Go.RowKit
theorem fq_in {n c : Int} (hc : c ≠ 0) (h : n.natAbs ≤ 85070591730234615865843651857942052864) : in128 (fq n c) := by
  unfold fq in128
  have h1 : ∀ m d : Int, 0 < d → m.natAbs ≤ 85070591730234615865843651857942052864 → -170141183460469231731687303715884105728 ≤ m / d ∧ m / d < 170141183460469231731687303715884105728 := fun m d hd hm => by
    constructor
    · refine Int.le_trans ?_ ((Int.le_ediv_iff_mul_le hd).2 (show (-85070591730234615865843651857942052864) * d ≤ m by omega))
      omega
    · refine Int.ediv_lt_of_lt_mul hd ?_
      omega
  by_cases h2 : 0 < c
  · rw [if_pos h2]; exact h1 n c h2 h
  · rw [if_neg h2]; exact h1 (-n) (-c) (by omega) (by omega)
def oV (q r : Int) : Int := if -9223372036854775808 ≤ q ∧ q < 9223372036854775808 then r else 0
set_option maxHeartbeats 1600000 in
set_option maxRecDepth 100000 in
theorem mulDiv_any (a b c : Int) (ba : in64 a) (bb : in64 b) (bc : in64 c) (hc : c ≠ 0) (w : World) :
    Calls Tryd.prog 72 #[.int .i64 a, .int .i64 b, .int .i64 c] w fun e w' => e = .returned (.tuple #[.int .i64 (iV (fq (a * b) c)), .int .i64 (oV (fq (a * b) c) (fr (a * b) c)), .int .i64 (iE (fq (a * b) c))]) ∧ Below w.heap.size w w' := by
  have H1 := Lib.hid (floor_any a b c ba bb bc hc)
  have hn : (a * b).natAbs ≤ 85070591730234615865843651857942052864 := by rw [Int.natAbs_mul]; exact prod_U ba bb
  have H2 := Lib.hid (zInt_any (fq (a * b) c) (fq_in hc hn))
  clear hn hc ba bb bc
  generalize fr (a * b) c = r at *
  generalize fq (a * b) c = q at *
  by_cases hq : in64 q
  · have h1 := iE_of hq
    have h2 := iV_of hq
    have h3 : oV q r = r := if_pos hq
    rw [h1, h2] at H2
    rw [h1, h2, h3]
    clear hq h1 h2 h3
    go_enter Tryd.func72, Tryd.ntmps72
    go_wp2_with fail
    
    refine (H1.out _).mono ?_
    rintro e V1 ⟨rfl, hb1⟩
    have B1 : Hid (Below w.heap.size w V1) := by first | exact Lib.hid ((Below.refl w.heap.size w).trans (hb1.mono (by first | assumption | (simp <;> omega) | (simp; done)))) | exact Lib.hid (((Below.refl w.heap.size w).alloc (Nat.le_refl _) _).trans (hb1.mono (by first | assumption | (simp <;> omega) | (simp; done)))) | exact Lib.hid ((((Below.refl w.heap.size w).alloc (Nat.le_refl _) _).alloc (by simp <;> omega) _).trans (hb1.mono (by first | assumption | (simp <;> omega) | (simp; done)))) | exact Lib.hid (((((Below.refl w.heap.size w).alloc (Nat.le_refl _) _).alloc (by simp <;> omega) _).alloc (by simp <;> omega) _).trans (hb1.mono (by first | assumption | (simp <;> omega) | (simp; done))))
    clear hb1
    go_simp
    go_wp2_with fail
    refine (H2.out _).mono ?_
    rintro e V2 ⟨rfl, hb2⟩
    have B2 := Lib.hid (((B1.out).alloc (B1.out.size) _).trans (hb2.mono (by have := B1.out.size; first | assumption | (simp <;> omega) | (simp; done))))
    have Q1 := Lib.hid (row_call hb2 (heap_alloc_new _ _))
    clear hb2
    have Q1_0 : V2.cell? ⟨V1.heap.size, 0, none⟩ = some (.int .u64 (zh q)) := cell_of_row _ _ _ _ _ _ Q1.out
    have Q1_1 : V2.cell? ⟨V1.heap.size, 1, none⟩ = some (.int .u64 (zl q)) := cell_of_row _ _ _ _ _ _ Q1.out
    have zQ1 := lt_of_heap Q1.out
    go_simp
    go_wp2
    go_ret3
    exact ⟨rfl, B2.out⟩
  · have h1 := iE_not hq
    have h2 := iV_not hq
    have h3 : oV q r = 0 := if_neg hq
    rw [h1, h2] at H2
    rw [h1, h2, h3]
    clear hq h1 h2 h3
    go_enter Tryd.func72, Tryd.ntmps72
    go_wp2_with fail
    
    refine (H1.out _).mono ?_
    rintro e V1 ⟨rfl, hb1⟩
    have B1 : Hid (Below w.heap.size w V1) := by first | exact Lib.hid ((Below.refl w.heap.size w).trans (hb1.mono (by first | assumption | (simp <;> omega) | (simp; done)))) | exact Lib.hid (((Below.refl w.heap.size w).alloc (Nat.le_refl _) _).trans (hb1.mono (by first | assumption | (simp <;> omega) | (simp; done)))) | exact Lib.hid ((((Below.refl w.heap.size w).alloc (Nat.le_refl _) _).alloc (by simp <;> omega) _).trans (hb1.mono (by first | assumption | (simp <;> omega) | (simp; done)))) | exact Lib.hid (((((Below.refl w.heap.size w).alloc (Nat.le_refl _) _).alloc (by simp <;> omega) _).alloc (by simp <;> omega) _).trans (hb1.mono (by first | assumption | (simp <;> omega) | (simp; done))))
    clear hb1
    go_simp
    go_wp2_with fail
    refine (H2.out _).mono ?_
    rintro e V2 ⟨rfl, hb2⟩
    have B2 := Lib.hid (((B1.out).alloc (B1.out.size) _).trans (hb2.mono (by have := B1.out.size; first | assumption | (simp <;> omega) | (simp; done))))
    have Q1 := Lib.hid (row_call hb2 (heap_alloc_new _ _))
    clear hb2
    have Q1_0 : V2.cell? ⟨V1.heap.size, 0, none⟩ = some (.int .u64 (zh q)) := cell_of_row _ _ _ _ _ _ Q1.out
    have Q1_1 : V2.cell? ⟨V1.heap.size, 1, none⟩ = some (.int .u64 (zl q)) := cell_of_row _ _ _ _ _ _ Q1.out
    have zQ1 := lt_of_heap Q1.out
    go_simp
    go_wp2
    go_ret3
    exact ⟨rfl, B2.out⟩
theorem mulDiv_none (a b : Int) (ba : in64 a) (bb : in64 b) (w : World) :
    Calls Tryd.prog 72 #[.int .i64 a, .int .i64 b, .int .i64 0] w fun e w' => e = .returned (.tuple #[.int .i64 0, .int .i64 0, .int .i64 5]) ∧ Below w.heap.size w w' := by
  have H1 := Lib.hid (floor_none a b ba bb)
  clear ba bb
  go_enter Tryd.func72, Tryd.ntmps72
  go_wp2_with fail
  
  refine (H1.out _).mono ?_
  rintro e V1 ⟨rfl, hb1⟩
  have B1 : Hid (Below w.heap.size w V1) := by first | exact Lib.hid ((Below.refl w.heap.size w).trans (hb1.mono (by first | assumption | (simp <;> omega) | (simp; done)))) | exact Lib.hid (((Below.refl w.heap.size w).alloc (Nat.le_refl _) _).trans (hb1.mono (by first | assumption | (simp <;> omega) | (simp; done)))) | exact Lib.hid ((((Below.refl w.heap.size w).alloc (Nat.le_refl _) _).alloc (by simp <;> omega) _).trans (hb1.mono (by first | assumption | (simp <;> omega) | (simp; done)))) | exact Lib.hid (((((Below.refl w.heap.size w).alloc (Nat.le_refl _) _).alloc (by simp <;> omega) _).alloc (by simp <;> omega) _).trans (hb1.mono (by first | assumption | (simp <;> omega) | (simp; done))))
  clear hb1
  go_simp
  go_wp2
  go_ret3
  exact ⟨rfl, by first | exact B1.out | exact B1.out.alloc B1.out.size _⟩
def dV (n c : Int) : Int := if c = 0 then 0 else iV (fq n c)
def dR (n c : Int) : Int := if c = 0 then 0 else oV (fq n c) (fr n c)
def dM (n c : Int) : Int := if c = 0 then 0 else fr n c
def dE (n c : Int) : Int := if c = 0 then 5 else iE (fq n c)
def dF (c : Int) : Int := if c = 0 then 5 else 0
theorem zcMulDiv_any (a b c : Int) (ba : in64 a) (bb : in64 b) (bc : in64 c) (w : World) :
    Calls Tryd.prog 72 #[.int .i64 a, .int .i64 b, .int .i64 c] w fun e w' => e = .returned (.tuple #[.int .i64 (dV (a * b) c), .int .i64 (dR (a * b) c), .int .i64 (dE (a * b) c)]) ∧ Below w.heap.size w w' := by
  unfold dV dR dE
  by_cases hc : c = 0
  · subst hc; exact mulDiv_none a b ba bb w
  · rw [if_neg hc, if_neg hc, if_neg hc]; exact mulDiv_any a b c ba bb bc hc w
theorem zcFloorDiv_any (a b : Int) (ba : in64 a) (bb : in64 b) (w : World) :
    Calls Tryd.prog 65 #[.int .i64 a, .int .i64 b] w fun e w' => e = .returned (.tuple #[.int .i64 (dV a b), .int .i64 (dE a b)]) ∧ Below w.heap.size w w' := by
  have X := zcMulDiv_any a 1 b ba (by unfold in64; omega) bb
  rw [Int.mul_one] at X
  have H1 := Lib.hid X
  clear X ba bb
  generalize dV a b = q at *
  generalize dR a b = r at *
  generalize dE a b = f at *
  go_enter Tryd.func65, Tryd.ntmps65
  go_wp2_with fail
  
  refine (H1.out _).mono ?_
  rintro e V1 ⟨rfl, hb1⟩
  have B1 : Hid (Below w.heap.size w V1) := by first | exact Lib.hid ((Below.refl w.heap.size w).trans (hb1.mono (by first | assumption | (simp <;> omega) | (simp; done)))) | exact Lib.hid (((Below.refl w.heap.size w).alloc (Nat.le_refl _) _).trans (hb1.mono (by first | assumption | (simp <;> omega) | (simp; done)))) | exact Lib.hid ((((Below.refl w.heap.size w).alloc (Nat.le_refl _) _).alloc (by simp <;> omega) _).trans (hb1.mono (by first | assumption | (simp <;> omega) | (simp; done)))) | exact Lib.hid (((((Below.refl w.heap.size w).alloc (Nat.le_refl _) _).alloc (by simp <;> omega) _).alloc (by simp <;> omega) _).trans (hb1.mono (by first | assumption | (simp <;> omega) | (simp; done))))
  clear hb1
  go_simp
  go_wp2
  go_ret2
  exact ⟨rfl, by first | exact B1.out | exact B1.out.alloc B1.out.size _⟩
theorem zcFloorMod_any (a b : Int) (ba : in64 a) (bb : in64 b) (w : World) :
    Calls Tryd.prog 66 #[.int .i64 a, .int .i64 b] w fun e w' => e = .returned (.tuple #[.int .i64 (dM a b), .int .i64 (dF b)]) ∧ Below w.heap.size w w' := by
  have X : ∃ x y : Nat, ∀ w, Calls Tryd.prog 73 #[.int .i64 a, .int .i64 1, .int .i64 b] w fun e w' => e = .returned (.tuple #[.agg #[.int .u64 x, .int .u64 y], .int .i64 (dM a b), .int .i64 (dF b)]) ∧ Below w.heap.size w w' := by
    unfold dM dF
    by_cases hc : b = 0
    · subst hc; exact ⟨0, 0, floor_none a 1 ba (by unfold in64; omega)⟩
    · rw [if_neg hc, if_neg hc]
      refine ⟨zh (fq (a * 1) b), zl (fq (a * 1) b), ?_⟩
      have := floor_any a 1 b ba (by unfold in64; omega) bb hc
      rw [Int.mul_one] at this ⊢
      exact this
  obtain ⟨x, y, X⟩ := X
  have H1 := Lib.hid X
  clear X ba bb
  generalize dM a b = r at *
  generalize dF b = f at *
  go_enter Tryd.func66, Tryd.ntmps66
  go_wp2_with fail
  
  refine (H1.out _).mono ?_
  rintro e V1 ⟨rfl, hb1⟩
  have B1 : Hid (Below w.heap.size w V1) := by first | exact Lib.hid ((Below.refl w.heap.size w).trans (hb1.mono (by first | assumption | (simp <;> omega) | (simp; done)))) | exact Lib.hid (((Below.refl w.heap.size w).alloc (Nat.le_refl _) _).trans (hb1.mono (by first | assumption | (simp <;> omega) | (simp; done)))) | exact Lib.hid ((((Below.refl w.heap.size w).alloc (Nat.le_refl _) _).alloc (by simp <;> omega) _).trans (hb1.mono (by first | assumption | (simp <;> omega) | (simp; done)))) | exact Lib.hid (((((Below.refl w.heap.size w).alloc (Nat.le_refl _) _).alloc (by simp <;> omega) _).alloc (by simp <;> omega) _).trans (hb1.mono (by first | assumption | (simp <;> omega) | (simp; done))))
  clear hb1
  go_simp
  go_wp2
  go_ret2
  exact ⟨rfl, by first | exact B1.out | exact B1.out.alloc B1.out.size _⟩
end Go.Proofs.YtoopbgpoelpjfaaDoor
