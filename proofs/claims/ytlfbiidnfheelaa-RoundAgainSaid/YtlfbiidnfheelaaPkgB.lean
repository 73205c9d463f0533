/- Contract of math/bits.Div64, as package wide uses it. -/
import Derived.Test.YtlfbiidnfheelaaRefG
import Derived.Test.YtlfbiidnfheelaaShelf
import Derived.Test.YtlfbiidnfheelaaLotP
import Derived.WalkKit
import Derived.ProofKit
import Derived.OpenShut
import Derived.Handy
import Derived.Outline
import Derived.Lib.Hide
import Derived.Deep.QuietTactic
import Derived.BigQuiet
import Derived.Lib.SmallJoins
namespace Go.Proofs.Ytlfbiidnfheelaa
set_option linter.unusedVariables false
open Go.ChangeShapes Go.WideShapes Go.ChangeAt Go.RowKit

theorem ret_two {k1 k2 : IntKind} {a b c d : Int} (h1 : a = b) (h2 : c = d) : Ending.returned (.tuple #[.int k1 a, .int k2 c]) = Ending.returned (.tuple #[.int k1 b, .int k2 d]) := by rw [h1, h2]
theorem wrap_nat (a : Nat) (h : a < 18446744073709551616) : IntKind.u64.wrap (a : Int) = (a : Int) := by rw [IntKind.wrap_u64]; omega
theorem and_lo32 (a : Nat) (h : U a) : bits .and .u64 (a : Int) 4294967295 = ((a % 4294967296 : Nat) : Int) := Go.Proofs.Mul64.maskN a h

set_option maxHeartbeats 1000000 in
set_option maxRecDepth 100000 in
theorem div64_zero (l y : Nat) (hl : U l) (hy : 0 < y) (w : World) :
    Calls Try.prog 80 #[.int .u64 0, .int .u64 l, .int .u64 y] w fun e w' => e = .returned (.tuple #[.int .u64 (l / y : Nat), .int .u64 (l % y : Nat)]) ∧ Below w.heap.size w w' := by
  have hy0 : ((y : Int) == 0) = false := by rw [beq_eq_false_iff_ne]; omega
  have hy1 : decide ((y : Int) ≤ 0) = false := by rw [decide_eq_false_iff_not]; omega
  have hp : (0 : Int) < (y : Int) := by omega
  go_enter Try.func80, Try.ntmps80
  go_wp2_with fail
  go_quiet (fail)
  go_wp2
  go_ret2
  have e : IntKind.u64.wrap ((l : Int) / (y : Int)) = ((l / y : Nat) : Int) := by
    have h1 : ((l : Int) / (y : Int)) = ((l / y : Nat) : Int) := rfl
    rw [h1]; exact wrap_nat _ (Nat.lt_of_le_of_lt (Nat.div_le_self l y) hl)
  exact ⟨by rw [e]; rfl, (Go.Joins.below_draws _ _ _)⟩

set_option maxHeartbeats 8000000 in
set_option maxRecDepth 100000 in
theorem div64_any (h l y : Nat) (hh : U h) (hl : U l) (hy : h < y) (hy2 : U y) (h0 : 0 < h) (w : World) :
    Calls Try.prog 80 #[.int .u64 h, .int .u64 l, .int .u64 y] w fun e w' => e = .returned (.tuple #[.int .u64 (num h l / y : Nat), .int .u64 (num h l % y : Nat)]) ∧ Below w.heap.size w w' := by
  have hy0 : ((y : Int) == 0) = false := by rw [beq_eq_false_iff_ne]; omega
  have hy1 : decide (y ≤ h) = false := by rw [decide_eq_false_iff_not]; omega
  have hh0 : ((h : Int) == 0) = false := by rw [beq_eq_false_iff_ne]; omega
  have HY := Lib.hid hy
  clear hy
  go_enter Try.func80, Try.ntmps80
  go_wp2_with fail
  refine (Try.bits_LeadingZeros64 y _ (by omega) (by unfold U at hy2; omega)).mono ?_
  rintro e w1 ⟨rfl, rfl⟩
  obtain ⟨b1, b2, nd⟩ := ND.of y (by have := HY.out; omega) hy2
  obtain ⟨s, Es⟩ : ∃ s, Hid (s = 64 - Lib.bitLen y) := ⟨_, rfl⟩
  rw [← Es.out] at nd
  have f1 : IntKind.u64.wrap (64 - (Lib.bitLen y : Int)) = (s : Int) := by rw [IntKind.wrap_u64, Es.out]; omega
  have f1' : ((y : Int)).toNat = y := Int.toNat_natCast y
  have fm : min s 64 = s := Nat.min_eq_left (by have := nd.sle; omega)
  obtain ⟨Y, EY⟩ : ∃ Y, Hid (Y = y * 2 ^ s) := ⟨_, rfl⟩
  rw [← EY.out] at nd
  obtain ⟨n1a, n2a, n3a, n4a⟩ := nd.num hl HY.out
  have f2 : IntKind.u64.wrap ((y : Int) * 2 ^ s) = (Y : Int) := by
    have e : ((y : Int) * 2 ^ s) = (Y : Int) := by rw [EY.out, Int.natCast_mul, Int.natCast_pow]; rfl
    rw [e]; exact wrap_nat _ nd.hi
  obtain ⟨y1, Ey1⟩ : ∃ y1, Hid (y1 = Y / 4294967296) := ⟨_, rfl⟩
  have f3 : ((Y : Int) / 4294967296) = (y1 : Int) := by rw [Ey1.out]; rfl
  obtain ⟨y0, Ey0⟩ : ∃ y0, Hid (y0 = Y % 4294967296) := ⟨_, rfl⟩
  have f4 : bits .and .u64 (Y : Int) 4294967295 = (y0 : Int) := by rw [and_lo32 Y nd.hi, Ey0.out]
  obtain ⟨hs, Ehs⟩ : ∃ hs, Hid (hs = h * 2 ^ s) := ⟨_, rfl⟩
  have f5 : IntKind.u64.wrap ((h : Int) * 2 ^ s) = (hs : Int) := by
    have e : ((h : Int) * 2 ^ s) = (hs : Int) := by rw [Ehs.out, Int.natCast_mul, Int.natCast_pow]; rfl
    rw [e]; exact wrap_nat _ (by rw [Ehs.out]; exact n1a)
  obtain ⟨s2, Es2⟩ : ∃ s2, Hid (s2 = 64 - s) := ⟨_, rfl⟩
  have f6 : IntKind.u64.wrap (64 - (s : Int)) = (s2 : Int) := by rw [IntKind.wrap_u64, Es2.out]; have := nd.sle; omega
  have fm2 : min s2 64 = s2 := Nat.min_eq_left (by have := Es2.out; omega)
  obtain ⟨ls, Els⟩ : ∃ ls, Hid (ls = l / 2 ^ s2) := ⟨_, rfl⟩
  have f7 : ((l : Int) / 2 ^ s2) = (ls : Int) := by rw [Els.out, Int.natCast_ediv, Int.natCast_pow]; rfl
  obtain ⟨u, Eu⟩ : ∃ u, Hid (u = hs + ls) := ⟨_, rfl⟩
  have hu : u = h * 2 ^ s + l / 2 ^ (64 - s) := by rw [Eu.out, Ehs.out, Els.out, Es2.out]
  have f8 : bits .or .u64 (hs : Int) (ls : Int) = (u : Int) := by
    have a1 : hs < 18446744073709551616 := by rw [Ehs.out]; exact n1a
    have a2 : ls < 18446744073709551616 := by rw [Els.out]; exact Nat.lt_of_le_of_lt (Nat.div_le_self _ _) hl
    rw [u64_or_nat _ _ a1 a2, hu, Ehs.out, Els.out, Es2.out, n2a]
  obtain ⟨lt, Elt⟩ : ∃ lt, Hid (lt = l * 2 ^ s % 18446744073709551616) := ⟨_, rfl⟩
  have f9 : IntKind.u64.wrap ((l : Int) * 2 ^ s) = (lt : Int) := by
    have e : ((l : Int) * 2 ^ s) = ((l * 2 ^ s : Nat) : Int) := by rw [Int.natCast_mul, Int.natCast_pow]; rfl
    rw [e, IntKind.wrap_u64, Elt.out]; rfl
  obtain ⟨m1, Em1⟩ : ∃ m1, Hid (m1 = lt / 4294967296) := ⟨_, rfl⟩
  have f10 : ((lt : Int) / 4294967296) = (m1 : Int) := by rw [Em1.out]; rfl
  obtain ⟨m0, Em0⟩ : ∃ m0, Hid (m0 = lt % 4294967296) := ⟨_, rfl⟩
  have hlt : lt < 18446744073709551616 := by rw [Elt.out]; exact Nat.mod_lt _ (by omega)
  have f11 : bits .and .u64 (lt : Int) 4294967295 = (m0 : Int) := by rw [and_lo32 lt hlt, Em0.out]
  have hN := n4a
  rw [← hu, ← Elt.out] at hN
  rw [← hu] at n3a
  have kd : KD u Y y1 y0 m1 := by
    have a1 := nd.lo; have a2 := nd.hi; have a3 := Ey1.out; have a4 := Ey0.out; have a5 := Em1.out
    exact ⟨by omega, by omega, ⟨by omega, by omega⟩, n3a, by omega⟩
  have kd2 : KD (kr u Y m1) Y y1 y0 m0 := ⟨kd.y, kd.y0, kd.y1, kr_lt kd, by rw [Em0.out]; omega⟩
  have HN : Hid (num h l * 2 ^ s = (kq u Y m1 * 4294967296 + kq (kr u Y m1) Y m0) * Y + kr (kr u Y m1) Y m0) := by
    rw [← two_digits]; show _ = _; rw [hN]; congr 1; rw [Em1.out, Em0.out]; omega
  have KD1 := Lib.hid kd
  have KD2 := Lib.hid kd2
  have ND1 := Lib.hid nd
  have hy1p : (0 : Int) < (y1 : Int) := by have := kd.y1; omega
  have hy1z : ((y1 : Int) == 0) = false := by rw [beq_eq_false_iff_ne]; omega
  obtain ⟨i1, i2⟩ := KI.start kd
  obtain ⟨q, Eq⟩ : ∃ q, Hid (q = u / y1) := ⟨_, rfl⟩
  have huU : u < 18446744073709551616 := Nat.lt_trans kd.u nd.hi
  have f12 : IntKind.u64.wrap ((u : Int) / (y1 : Int)) = (q : Int) := by
    have e : ((u : Int) / (y1 : Int)) = (q : Int) := by rw [Eq.out]; rfl
    rw [e]; exact wrap_nat _ (by rw [Eq.out]; exact Nat.lt_of_le_of_lt (Nat.div_le_self _ _) huU)
  obtain ⟨p, Ep⟩ : ∃ p, Hid (p = q * y1) := ⟨_, rfl⟩
  have hpu : p + u % y1 = u := by rw [Ep.out, Eq.out, Nat.mul_comm]; exact Nat.div_add_mod _ _
  have f13 : IntKind.u64.wrap ((q : Int) * (y1 : Int)) = (p : Int) := by
    have e : ((q : Int) * (y1 : Int)) = (p : Int) := by rw [Ep.out, Int.natCast_mul]
    rw [e]; exact wrap_nat _ (by omega)
  obtain ⟨r, Er⟩ : ∃ r, Hid (r = u % y1) := ⟨_, rfl⟩
  have f14 : IntKind.u64.wrap ((u : Int) - (p : Int)) = (r : Int) := by rw [IntKind.wrap_u64, Er.out]; omega
  obtain ⟨k1, Ek1⟩ : ∃ k1, Hid (k1 = kq u Y m1) := ⟨_, rfl⟩
  obtain ⟨v, Ev⟩ : ∃ v, Hid (v = kr u Y m1) := ⟨_, rfl⟩
  have hk1 : k1 < 4294967296 := by rw [Ek1.out]; exact kq_lt kd
  have hv : v < Y := by rw [Ev.out]; exact kr_lt kd
  have hYl := nd.hi
  have hm1 := kd.n
  have hm0 := kd2.n
  have hqr : u * 4294967296 + m1 = k1 * Y + v := by rw [Ek1.out, Ev.out]; exact kqr u Y m1
  obtain ⟨a1, Ea1⟩ : ∃ a1, Hid (a1 = u * 4294967296 % 18446744073709551616) := ⟨_, rfl⟩
  have k11 : IntKind.u64.wrap ((u : Int) * 4294967296) = (a1 : Int) := by rw [IntKind.wrap_u64, Ea1.out]; omega
  obtain ⟨a2, Ea2⟩ : ∃ a2, Hid (a2 = (a1 + m1) % 18446744073709551616) := ⟨_, rfl⟩
  have k12 : IntKind.u64.wrap ((a1 : Int) + (m1 : Int)) = (a2 : Int) := by rw [IntKind.wrap_u64, Ea2.out]; omega
  obtain ⟨a3, Ea3⟩ : ∃ a3, Hid (a3 = k1 * Y % 18446744073709551616) := ⟨_, rfl⟩
  have k13 : IntKind.u64.wrap ((k1 : Int) * (Y : Int)) = (a3 : Int) := by
    have e : ((k1 : Int) * (Y : Int)) = ((k1 * Y : Nat) : Int) := by rw [Int.natCast_mul]
    rw [e, IntKind.wrap_u64, Ea3.out]; omega
  have k14 : IntKind.u64.wrap ((a2 : Int) - (a3 : Int)) = (v : Int) := by
    have h1 := Ea1.out; have h2 := Ea2.out; have h3 := Ea3.out
    generalize k1 * Y = PP at *
    rw [IntKind.wrap_u64]; omega
  obtain ⟨q2, Eq2⟩ : ∃ q2, Hid (q2 = v / y1) := ⟨_, rfl⟩
  have k15 : IntKind.u64.wrap ((v : Int) / (y1 : Int)) = (q2 : Int) := by
    have e : ((v : Int) / (y1 : Int)) = (q2 : Int) := by rw [Eq2.out]; rfl
    rw [e]; exact wrap_nat _ (by rw [Eq2.out]; exact Nat.lt_of_le_of_lt (Nat.div_le_self _ _) (Nat.lt_trans hv hYl))
  obtain ⟨p2, Ep2⟩ : ∃ p2, Hid (p2 = q2 * y1) := ⟨_, rfl⟩
  have hpu2 : p2 + v % y1 = v := by rw [Ep2.out, Eq2.out, Nat.mul_comm]; exact Nat.div_add_mod _ _
  have k16 : IntKind.u64.wrap ((q2 : Int) * (y1 : Int)) = (p2 : Int) := by
    have e : ((q2 : Int) * (y1 : Int)) = (p2 : Int) := by rw [Ep2.out, Int.natCast_mul]
    rw [e]; exact wrap_nat _ (by omega)
  obtain ⟨r2, Er2⟩ : ∃ r2, Hid (r2 = v % y1) := ⟨_, rfl⟩
  have k17 : IntKind.u64.wrap ((v : Int) - (p2 : Int)) = (r2 : Int) := by rw [IntKind.wrap_u64, Er2.out]; omega
  obtain ⟨k0, Ek0⟩ : ∃ k0, Hid (k0 = kq v Y m0) := ⟨_, rfl⟩
  obtain ⟨R, ER⟩ : ∃ R, Hid (R = kr v Y m0) := ⟨_, rfl⟩
  rw [← Ev.out] at kd2
  have hk0 : k0 < 4294967296 := by rw [Ek0.out]; exact kq_lt kd2
  have hR : R < Y := by rw [ER.out]; exact kr_lt kd2
  have hqr2 : v * 4294967296 + m0 = k0 * Y + R := by rw [Ek0.out, ER.out]; exact kqr v Y m0
  obtain ⟨b1', Eb1⟩ : ∃ b1, Hid (b1 = v * 4294967296 % 18446744073709551616) := ⟨_, rfl⟩
  have k21 : IntKind.u64.wrap ((v : Int) * 4294967296) = (b1' : Int) := by rw [IntKind.wrap_u64, Eb1.out]; omega
  obtain ⟨b2', Eb2⟩ : ∃ b2, Hid (b2 = (b1' + m0) % 18446744073709551616) := ⟨_, rfl⟩
  have k22 : IntKind.u64.wrap ((b1' : Int) + (m0 : Int)) = (b2' : Int) := by rw [IntKind.wrap_u64, Eb2.out]; omega
  obtain ⟨b3, Eb3⟩ : ∃ b3, Hid (b3 = k0 * Y % 18446744073709551616) := ⟨_, rfl⟩
  have k23 : IntKind.u64.wrap ((k0 : Int) * (Y : Int)) = (b3 : Int) := by
    have e : ((k0 : Int) * (Y : Int)) = ((k0 * Y : Nat) : Int) := by rw [Int.natCast_mul]
    rw [e, IntKind.wrap_u64, Eb3.out]; omega
  have k24 : IntKind.u64.wrap ((b2' : Int) - (b3 : Int)) = (R : Int) := by
    have h1 := Eb1.out; have h2 := Eb2.out; have h3 := Eb3.out
    generalize k0 * Y = PP at *
    rw [IntKind.wrap_u64]; omega
  obtain ⟨F, EF⟩ : ∃ F, Hid (R / 2 ^ s = F) := ⟨_, rfl⟩
  have k25 : ((R : Int) / 2 ^ s) = (F : Int) := by rw [← EF.out, Int.natCast_ediv, Int.natCast_pow]; rfl
  obtain ⟨c1, Ec1⟩ : ∃ c1, Hid (c1 = k1 * 4294967296) := ⟨_, rfl⟩
  have k26 : IntKind.u64.wrap ((k1 : Int) * 4294967296) = (c1 : Int) := by rw [IntKind.wrap_u64, Ec1.out]; omega
  obtain ⟨Q, EQ⟩ : ∃ Q, Hid (k1 * 4294967296 + k0 = Q) := ⟨_, rfl⟩
  have k27 : IntKind.u64.wrap ((c1 : Int) + (k0 : Int)) = (Q : Int) := by rw [IntKind.wrap_u64, ← EQ.out, Ec1.out]; omega
  have HS1 := Lib.hid (show KI u Y y1 m1 q r ∧ r < 4294967296 by rw [Eq.out, Er.out]; exact ⟨i1, i2⟩)
  obtain ⟨l1, l2⟩ := KI.start kd2
  have HS2 := Lib.hid (show KI v Y y1 m0 q2 r2 ∧ r2 < 4294967296 by rw [Eq2.out, Er2.out]; exact ⟨l1, l2⟩)
  replace KD2 := Lib.hid kd2
  clear hk1 hv hYl hm1 hm0 hqr hpu2 hk0 hR hqr2 l1 l2
  clear n1a n2a n3a n4a hu hlt hN kd kd2 i1 i2 huU hpu nd b1 b2 hl hh h0 hy2
  go_wp2
  go_loop [15, 16] (fun x15 x16 => ∃ qh rh : Nat, x15 = .int .u64 qh ∧ x16 = .int .u64 rh ∧ Hid (KI u Y y1 m1 qh rh ∧ rh < 4294967296)) (fun x15 _ => (intOf x15).toNat)
  case atStart => exact ⟨q, r, rfl, rfl, HS1⟩
  case round =>
    obtain ⟨qh, rh, rfl, rfl, HI⟩ := hrel
    have hI := HI.out
    by_cases hA : 4294967296 ≤ qh
    · have g1 : decide ((4294967296 : Int) ≤ (qh : Int)) = true := by rw [decide_eq_true_eq]; omega
      obtain ⟨j1, j2, j3⟩ := KI.step KD1.out hI.1 (Or.inl hA)
      obtain ⟨q', Eq'⟩ : ∃ q', Hid (q' = qh - 1) := ⟨_, rfl⟩
      obtain ⟨r', Er'⟩ : ∃ r', Hid (r' = rh + y1) := ⟨_, rfl⟩
      have hy1b := KD1.out.y1.2
      have hqb := hI.1.hi
      have g3 : IntKind.u64.wrap ((qh : Int) - 1) = (q' : Int) := by rw [IntKind.wrap_u64, Eq'.out]; omega
      have g4 : IntKind.u64.wrap ((rh : Int) + (y1 : Int)) = (r' : Int) := by rw [IntKind.wrap_u64, Er'.out]; have := hI.2; omega
      rw [← Eq'.out, ← Er'.out] at j3
      rw [← Eq'.out] at j2
      by_cases hB : 4294967296 ≤ r'
      · have g5 : decide ((4294967296 : Int) ≤ (r' : Int)) = true := by rw [decide_eq_true_eq]; omega
        obtain rfl : k1 = q' := by rw [Ek1.out]; exact (KI.over KD1.out j3 j2 hB).symm
        clear j1 j2 j3 hy1b hqb hB hI hA
        go_wp2
        go_loop [18, 16] (fun x15 x16 => ∃ qh rh : Nat, x15 = .int .u64 qh ∧ x16 = .int .u64 rh ∧ Hid (KI v Y y1 m0 qh rh ∧ rh < 4294967296)) (fun x15 _ => (intOf x15).toNat)
        case atStart => exact ⟨q2, r2, rfl, rfl, HS2⟩
        case round =>
          obtain ⟨qh, rh, rfl, rfl, HI⟩ := hrel
          have hI := HI.out
          by_cases hA : 4294967296 ≤ qh
          · have g1 : decide ((4294967296 : Int) ≤ (qh : Int)) = true := by rw [decide_eq_true_eq]; omega
            obtain ⟨j1, j2, j3⟩ := KI.step KD2.out hI.1 (Or.inl hA)
            obtain ⟨q', Eq'⟩ : ∃ q', Hid (q' = qh - 1) := ⟨_, rfl⟩
            obtain ⟨r', Er'⟩ : ∃ r', Hid (r' = rh + y1) := ⟨_, rfl⟩
            have hy1b := KD2.out.y1.2
            have hqb := hI.1.hi
            have g3 : IntKind.u64.wrap ((qh : Int) - 1) = (q' : Int) := by rw [IntKind.wrap_u64, Eq'.out]; omega
            have g4 : IntKind.u64.wrap ((rh : Int) + (y1 : Int)) = (r' : Int) := by rw [IntKind.wrap_u64, Er'.out]; have := hI.2; omega
            rw [← Eq'.out, ← Er'.out] at j3
            rw [← Eq'.out] at j2
            by_cases hB : 4294967296 ≤ r'
            · have g5 : decide ((4294967296 : Int) ≤ (r' : Int)) = true := by rw [decide_eq_true_eq]; omega
              obtain rfl : k0 = q' := by rw [Ek0.out]; exact (KI.over KD2.out j3 j2 hB).symm
              clear j1 j2 j3 hy1b hqb hB hI hA
              go_wp2
              go_ret2
              have hfin := shift_div (num h l) y s (k1 * 4294967296 + k0) R (by rw [HN.out, ← Ek1.out, ← Ev.out, ← Ek0.out, ← ER.out, ← EY.out]) (by rw [ER.out, ← EY.out]; exact kr_lt KD2.out)
              exact ⟨ret_two (congrArg Nat.cast (by rw [hfin.1, EQ.out])) (by rw [← Int.natCast_emod, hfin.2, EF.out]), Below.refl _ _⟩
            · have g5 : decide ((4294967296 : Int) ≤ (r' : Int)) = false := by rw [decide_eq_false_iff_not]; omega
              have HJ := Lib.hid (show KI v Y y1 m0 q' r' ∧ r' < 4294967296 from ⟨j3, by omega⟩)
              have HQ : Hid (q' < qh) := by show _ < _; have := Eq'.out; omega
              clear j1 j2 j3 hy1b hqb hB hI hA
              go_wp2
              go_round
              case rel => exact ⟨q', r', rfl, rfl, HJ⟩
              case measure => simp [intOf]; exact HQ.out
          · have g1 : decide ((4294967296 : Int) ≤ (qh : Int)) = false := by rw [decide_eq_false_iff_not]; omega
            obtain ⟨P, EP⟩ : ∃ P, Hid (P = qh * y0) := ⟨_, rfl⟩
            have hP : P < 18446744073709551616 := by
              rw [EP.out]; have h1 := KD2.out.y0
              have h2 : qh * y0 ≤ 4294967295 * 4294967295 := Nat.mul_le_mul (by omega) (by omega)
              omega
            have g6 : IntKind.u64.wrap ((qh : Int) * (y0 : Int)) = (P : Int) := by
              have e : ((qh : Int) * (y0 : Int)) = (P : Int) := by rw [EP.out, Int.natCast_mul]
              rw [e]; exact wrap_nat _ hP
            obtain ⟨R1, ER1⟩ : ∃ R1, Hid (R1 = 4294967296 * rh) := ⟨_, rfl⟩
            have hrh := hI.2
            have hmb := KD2.out.n
            have g7 : IntKind.u64.wrap (4294967296 * (rh : Int)) = (R1 : Int) := by rw [IntKind.wrap_u64, ER1.out]; omega
            obtain ⟨R2, ER2⟩ : ∃ R2, Hid (R2 = R1 + m0) := ⟨_, rfl⟩
            have g8 : IntKind.u64.wrap ((R1 : Int) + (m0 : Int)) = (R2 : Int) := by rw [IntKind.wrap_u64, ER2.out, ER1.out]; omega
            have hR2 : R2 = 4294967296 * rh + m0 := by rw [ER2.out, ER1.out]
            by_cases hlt2 : R2 < P
            · have g9 : decide (R2 < P) = true := by rw [decide_eq_true_eq]; exact hlt2
              have hC : 4294967296 * rh + m0 < qh * y0 := by rw [← hR2, ← EP.out]; exact hlt2
              clear hP hrh hmb hR2 hlt2
              obtain ⟨j1, j2, j3⟩ := KI.step KD2.out hI.1 (Or.inr hC)
              obtain ⟨q', Eq'⟩ : ∃ q', Hid (q' = qh - 1) := ⟨_, rfl⟩
              obtain ⟨r', Er'⟩ : ∃ r', Hid (r' = rh + y1) := ⟨_, rfl⟩
              have hy1b := KD2.out.y1.2
              have hqb := hI.1.hi
              have g3 : IntKind.u64.wrap ((qh : Int) - 1) = (q' : Int) := by rw [IntKind.wrap_u64, Eq'.out]; omega
              have g4 : IntKind.u64.wrap ((rh : Int) + (y1 : Int)) = (r' : Int) := by rw [IntKind.wrap_u64, Er'.out]; have := hI.2; omega
              rw [← Eq'.out, ← Er'.out] at j3
              rw [← Eq'.out] at j2
              by_cases hB : 4294967296 ≤ r'
              · have g5 : decide ((4294967296 : Int) ≤ (r' : Int)) = true := by rw [decide_eq_true_eq]; omega
                obtain rfl : k0 = q' := by rw [Ek0.out]; exact (KI.over KD2.out j3 j2 hB).symm
                clear j1 j2 j3 hy1b hqb hB hI hA hC
                go_wp2
                go_ret2
                have hfin := shift_div (num h l) y s (k1 * 4294967296 + k0) R (by rw [HN.out, ← Ek1.out, ← Ev.out, ← Ek0.out, ← ER.out, ← EY.out]) (by rw [ER.out, ← EY.out]; exact kr_lt KD2.out)
                exact ⟨ret_two (congrArg Nat.cast (by rw [hfin.1, EQ.out])) (by rw [← Int.natCast_emod, hfin.2, EF.out]), Below.refl _ _⟩
              · have g5 : decide ((4294967296 : Int) ≤ (r' : Int)) = false := by rw [decide_eq_false_iff_not]; omega
                have HJ := Lib.hid (show KI v Y y1 m0 q' r' ∧ r' < 4294967296 from ⟨j3, by omega⟩)
                have HQ : Hid (q' < qh) := by show _ < _; have := Eq'.out; omega
                clear j1 j2 j3 hy1b hqb hB hI hA hC
                go_wp2
                go_round
                case rel => exact ⟨q', r', rfl, rfl, HJ⟩
                case measure => simp [intOf]; exact HQ.out
            · have g9 : decide (R2 < P) = false := by rw [decide_eq_false_iff_not]; exact hlt2
              obtain rfl : k0 = qh := by rw [Ek0.out]; exact (KI.done KD2.out hI.1 (by rw [← hR2, ← EP.out]; omega)).symm
              clear hP hrh hmb hR2 hlt2 hI hA
              go_wp2
              go_ret2
              have hfin := shift_div (num h l) y s (k1 * 4294967296 + k0) R (by rw [HN.out, ← Ek1.out, ← Ev.out, ← Ek0.out, ← ER.out, ← EY.out]) (by rw [ER.out, ← EY.out]; exact kr_lt KD2.out)
              exact ⟨ret_two (congrArg Nat.cast (by rw [hfin.1, EQ.out])) (by rw [← Int.natCast_emod, hfin.2, EF.out]), Below.refl _ _⟩
      · have g5 : decide ((4294967296 : Int) ≤ (r' : Int)) = false := by rw [decide_eq_false_iff_not]; omega
        have HJ := Lib.hid (show KI u Y y1 m1 q' r' ∧ r' < 4294967296 from ⟨j3, by omega⟩)
        have HQ : Hid (q' < qh) := by show _ < _; have := Eq'.out; omega
        clear j1 j2 j3 hy1b hqb hB hI hA
        go_wp2
        go_round
        case rel => exact ⟨q', r', rfl, rfl, HJ⟩
        case measure => simp [intOf]; exact HQ.out
    · have g1 : decide ((4294967296 : Int) ≤ (qh : Int)) = false := by rw [decide_eq_false_iff_not]; omega
      obtain ⟨P, EP⟩ : ∃ P, Hid (P = qh * y0) := ⟨_, rfl⟩
      have hP : P < 18446744073709551616 := by
        rw [EP.out]; have h1 := KD1.out.y0
        have h2 : qh * y0 ≤ 4294967295 * 4294967295 := Nat.mul_le_mul (by omega) (by omega)
        omega
      have g6 : IntKind.u64.wrap ((qh : Int) * (y0 : Int)) = (P : Int) := by
        have e : ((qh : Int) * (y0 : Int)) = (P : Int) := by rw [EP.out, Int.natCast_mul]
        rw [e]; exact wrap_nat _ hP
      obtain ⟨R1, ER1⟩ : ∃ R1, Hid (R1 = 4294967296 * rh) := ⟨_, rfl⟩
      have hrh := hI.2
      have hmb := KD1.out.n
      have g7 : IntKind.u64.wrap (4294967296 * (rh : Int)) = (R1 : Int) := by rw [IntKind.wrap_u64, ER1.out]; omega
      obtain ⟨R2, ER2⟩ : ∃ R2, Hid (R2 = R1 + m1) := ⟨_, rfl⟩
      have g8 : IntKind.u64.wrap ((R1 : Int) + (m1 : Int)) = (R2 : Int) := by rw [IntKind.wrap_u64, ER2.out, ER1.out]; omega
      have hR2 : R2 = 4294967296 * rh + m1 := by rw [ER2.out, ER1.out]
      by_cases hlt2 : R2 < P
      · have g9 : decide (R2 < P) = true := by rw [decide_eq_true_eq]; exact hlt2
        have hC : 4294967296 * rh + m1 < qh * y0 := by rw [← hR2, ← EP.out]; exact hlt2
        clear hP hrh hmb hR2 hlt2
        obtain ⟨j1, j2, j3⟩ := KI.step KD1.out hI.1 (Or.inr hC)
        obtain ⟨q', Eq'⟩ : ∃ q', Hid (q' = qh - 1) := ⟨_, rfl⟩
        obtain ⟨r', Er'⟩ : ∃ r', Hid (r' = rh + y1) := ⟨_, rfl⟩
        have hy1b := KD1.out.y1.2
        have hqb := hI.1.hi
        have g3 : IntKind.u64.wrap ((qh : Int) - 1) = (q' : Int) := by rw [IntKind.wrap_u64, Eq'.out]; omega
        have g4 : IntKind.u64.wrap ((rh : Int) + (y1 : Int)) = (r' : Int) := by rw [IntKind.wrap_u64, Er'.out]; have := hI.2; omega
        rw [← Eq'.out, ← Er'.out] at j3
        rw [← Eq'.out] at j2
        by_cases hB : 4294967296 ≤ r'
        · have g5 : decide ((4294967296 : Int) ≤ (r' : Int)) = true := by rw [decide_eq_true_eq]; omega
          obtain rfl : k1 = q' := by rw [Ek1.out]; exact (KI.over KD1.out j3 j2 hB).symm
          clear j1 j2 j3 hy1b hqb hB hI hA hC
          go_wp2
          go_loop [18, 16] (fun x15 x16 => ∃ qh rh : Nat, x15 = .int .u64 qh ∧ x16 = .int .u64 rh ∧ Hid (KI v Y y1 m0 qh rh ∧ rh < 4294967296)) (fun x15 _ => (intOf x15).toNat)
          case atStart => exact ⟨q2, r2, rfl, rfl, HS2⟩
          case round =>
            obtain ⟨qh, rh, rfl, rfl, HI⟩ := hrel
            have hI := HI.out
            by_cases hA : 4294967296 ≤ qh
            · have g1 : decide ((4294967296 : Int) ≤ (qh : Int)) = true := by rw [decide_eq_true_eq]; omega
              obtain ⟨j1, j2, j3⟩ := KI.step KD2.out hI.1 (Or.inl hA)
              obtain ⟨q', Eq'⟩ : ∃ q', Hid (q' = qh - 1) := ⟨_, rfl⟩
              obtain ⟨r', Er'⟩ : ∃ r', Hid (r' = rh + y1) := ⟨_, rfl⟩
              have hy1b := KD2.out.y1.2
              have hqb := hI.1.hi
              have g3 : IntKind.u64.wrap ((qh : Int) - 1) = (q' : Int) := by rw [IntKind.wrap_u64, Eq'.out]; omega
              have g4 : IntKind.u64.wrap ((rh : Int) + (y1 : Int)) = (r' : Int) := by rw [IntKind.wrap_u64, Er'.out]; have := hI.2; omega
              rw [← Eq'.out, ← Er'.out] at j3
              rw [← Eq'.out] at j2
              by_cases hB : 4294967296 ≤ r'
              · have g5 : decide ((4294967296 : Int) ≤ (r' : Int)) = true := by rw [decide_eq_true_eq]; omega
                obtain rfl : k0 = q' := by rw [Ek0.out]; exact (KI.over KD2.out j3 j2 hB).symm
                clear j1 j2 j3 hy1b hqb hB hI hA
                go_wp2
                go_ret2
                have hfin := shift_div (num h l) y s (k1 * 4294967296 + k0) R (by rw [HN.out, ← Ek1.out, ← Ev.out, ← Ek0.out, ← ER.out, ← EY.out]) (by rw [ER.out, ← EY.out]; exact kr_lt KD2.out)
                exact ⟨ret_two (congrArg Nat.cast (by rw [hfin.1, EQ.out])) (by rw [← Int.natCast_emod, hfin.2, EF.out]), Below.refl _ _⟩
              · have g5 : decide ((4294967296 : Int) ≤ (r' : Int)) = false := by rw [decide_eq_false_iff_not]; omega
                have HJ := Lib.hid (show KI v Y y1 m0 q' r' ∧ r' < 4294967296 from ⟨j3, by omega⟩)
                have HQ : Hid (q' < qh) := by show _ < _; have := Eq'.out; omega
                clear j1 j2 j3 hy1b hqb hB hI hA
                go_wp2
                go_round
                case rel => exact ⟨q', r', rfl, rfl, HJ⟩
                case measure => simp [intOf]; exact HQ.out
            · have g1 : decide ((4294967296 : Int) ≤ (qh : Int)) = false := by rw [decide_eq_false_iff_not]; omega
              obtain ⟨P, EP⟩ : ∃ P, Hid (P = qh * y0) := ⟨_, rfl⟩
              have hP : P < 18446744073709551616 := by
                rw [EP.out]; have h1 := KD2.out.y0
                have h2 : qh * y0 ≤ 4294967295 * 4294967295 := Nat.mul_le_mul (by omega) (by omega)
                omega
              have g6 : IntKind.u64.wrap ((qh : Int) * (y0 : Int)) = (P : Int) := by
                have e : ((qh : Int) * (y0 : Int)) = (P : Int) := by rw [EP.out, Int.natCast_mul]
                rw [e]; exact wrap_nat _ hP
              obtain ⟨R1, ER1⟩ : ∃ R1, Hid (R1 = 4294967296 * rh) := ⟨_, rfl⟩
              have hrh := hI.2
              have hmb := KD2.out.n
              have g7 : IntKind.u64.wrap (4294967296 * (rh : Int)) = (R1 : Int) := by rw [IntKind.wrap_u64, ER1.out]; omega
              obtain ⟨R2, ER2⟩ : ∃ R2, Hid (R2 = R1 + m0) := ⟨_, rfl⟩
              have g8 : IntKind.u64.wrap ((R1 : Int) + (m0 : Int)) = (R2 : Int) := by rw [IntKind.wrap_u64, ER2.out, ER1.out]; omega
              have hR2 : R2 = 4294967296 * rh + m0 := by rw [ER2.out, ER1.out]
              by_cases hlt2 : R2 < P
              · have g9 : decide (R2 < P) = true := by rw [decide_eq_true_eq]; exact hlt2
                have hC : 4294967296 * rh + m0 < qh * y0 := by rw [← hR2, ← EP.out]; exact hlt2
                clear hP hrh hmb hR2 hlt2
                obtain ⟨j1, j2, j3⟩ := KI.step KD2.out hI.1 (Or.inr hC)
                obtain ⟨q', Eq'⟩ : ∃ q', Hid (q' = qh - 1) := ⟨_, rfl⟩
                obtain ⟨r', Er'⟩ : ∃ r', Hid (r' = rh + y1) := ⟨_, rfl⟩
                have hy1b := KD2.out.y1.2
                have hqb := hI.1.hi
                have g3 : IntKind.u64.wrap ((qh : Int) - 1) = (q' : Int) := by rw [IntKind.wrap_u64, Eq'.out]; omega
                have g4 : IntKind.u64.wrap ((rh : Int) + (y1 : Int)) = (r' : Int) := by rw [IntKind.wrap_u64, Er'.out]; have := hI.2; omega
                rw [← Eq'.out, ← Er'.out] at j3
                rw [← Eq'.out] at j2
                by_cases hB : 4294967296 ≤ r'
                · have g5 : decide ((4294967296 : Int) ≤ (r' : Int)) = true := by rw [decide_eq_true_eq]; omega
                  obtain rfl : k0 = q' := by rw [Ek0.out]; exact (KI.over KD2.out j3 j2 hB).symm
                  clear j1 j2 j3 hy1b hqb hB hI hA hC
                  go_wp2
                  go_ret2
                  have hfin := shift_div (num h l) y s (k1 * 4294967296 + k0) R (by rw [HN.out, ← Ek1.out, ← Ev.out, ← Ek0.out, ← ER.out, ← EY.out]) (by rw [ER.out, ← EY.out]; exact kr_lt KD2.out)
                  exact ⟨ret_two (congrArg Nat.cast (by rw [hfin.1, EQ.out])) (by rw [← Int.natCast_emod, hfin.2, EF.out]), Below.refl _ _⟩
                · have g5 : decide ((4294967296 : Int) ≤ (r' : Int)) = false := by rw [decide_eq_false_iff_not]; omega
                  have HJ := Lib.hid (show KI v Y y1 m0 q' r' ∧ r' < 4294967296 from ⟨j3, by omega⟩)
                  have HQ : Hid (q' < qh) := by show _ < _; have := Eq'.out; omega
                  clear j1 j2 j3 hy1b hqb hB hI hA hC
                  go_wp2
                  go_round
                  case rel => exact ⟨q', r', rfl, rfl, HJ⟩
                  case measure => simp [intOf]; exact HQ.out
              · have g9 : decide (R2 < P) = false := by rw [decide_eq_false_iff_not]; exact hlt2
                obtain rfl : k0 = qh := by rw [Ek0.out]; exact (KI.done KD2.out hI.1 (by rw [← hR2, ← EP.out]; omega)).symm
                clear hP hrh hmb hR2 hlt2 hI hA
                go_wp2
                go_ret2
                have hfin := shift_div (num h l) y s (k1 * 4294967296 + k0) R (by rw [HN.out, ← Ek1.out, ← Ev.out, ← Ek0.out, ← ER.out, ← EY.out]) (by rw [ER.out, ← EY.out]; exact kr_lt KD2.out)
                exact ⟨ret_two (congrArg Nat.cast (by rw [hfin.1, EQ.out])) (by rw [← Int.natCast_emod, hfin.2, EF.out]), Below.refl _ _⟩
        · have g5 : decide ((4294967296 : Int) ≤ (r' : Int)) = false := by rw [decide_eq_false_iff_not]; omega
          have HJ := Lib.hid (show KI u Y y1 m1 q' r' ∧ r' < 4294967296 from ⟨j3, by omega⟩)
          have HQ : Hid (q' < qh) := by show _ < _; have := Eq'.out; omega
          clear j1 j2 j3 hy1b hqb hB hI hA hC
          go_wp2
          go_round
          case rel => exact ⟨q', r', rfl, rfl, HJ⟩
          case measure => simp [intOf]; exact HQ.out
      · have g9 : decide (R2 < P) = false := by rw [decide_eq_false_iff_not]; exact hlt2
        obtain rfl : k1 = qh := by rw [Ek1.out]; exact (KI.done KD1.out hI.1 (by rw [← hR2, ← EP.out]; omega)).symm
        clear hP hrh hmb hR2 hlt2 hI hA
        go_wp2
        go_loop [18, 16] (fun x15 x16 => ∃ qh rh : Nat, x15 = .int .u64 qh ∧ x16 = .int .u64 rh ∧ Hid (KI v Y y1 m0 qh rh ∧ rh < 4294967296)) (fun x15 _ => (intOf x15).toNat)
        case atStart => exact ⟨q2, r2, rfl, rfl, HS2⟩
        case round =>
          obtain ⟨qh, rh, rfl, rfl, HI⟩ := hrel
          have hI := HI.out
          by_cases hA : 4294967296 ≤ qh
          · have g1 : decide ((4294967296 : Int) ≤ (qh : Int)) = true := by rw [decide_eq_true_eq]; omega
            obtain ⟨j1, j2, j3⟩ := KI.step KD2.out hI.1 (Or.inl hA)
            obtain ⟨q', Eq'⟩ : ∃ q', Hid (q' = qh - 1) := ⟨_, rfl⟩
            obtain ⟨r', Er'⟩ : ∃ r', Hid (r' = rh + y1) := ⟨_, rfl⟩
            have hy1b := KD2.out.y1.2
            have hqb := hI.1.hi
            have g3 : IntKind.u64.wrap ((qh : Int) - 1) = (q' : Int) := by rw [IntKind.wrap_u64, Eq'.out]; omega
            have g4 : IntKind.u64.wrap ((rh : Int) + (y1 : Int)) = (r' : Int) := by rw [IntKind.wrap_u64, Er'.out]; have := hI.2; omega
            rw [← Eq'.out, ← Er'.out] at j3
            rw [← Eq'.out] at j2
            by_cases hB : 4294967296 ≤ r'
            · have g5 : decide ((4294967296 : Int) ≤ (r' : Int)) = true := by rw [decide_eq_true_eq]; omega
              obtain rfl : k0 = q' := by rw [Ek0.out]; exact (KI.over KD2.out j3 j2 hB).symm
              clear j1 j2 j3 hy1b hqb hB hI hA
              go_wp2
              go_ret2
              have hfin := shift_div (num h l) y s (k1 * 4294967296 + k0) R (by rw [HN.out, ← Ek1.out, ← Ev.out, ← Ek0.out, ← ER.out, ← EY.out]) (by rw [ER.out, ← EY.out]; exact kr_lt KD2.out)
              exact ⟨ret_two (congrArg Nat.cast (by rw [hfin.1, EQ.out])) (by rw [← Int.natCast_emod, hfin.2, EF.out]), Below.refl _ _⟩
            · have g5 : decide ((4294967296 : Int) ≤ (r' : Int)) = false := by rw [decide_eq_false_iff_not]; omega
              have HJ := Lib.hid (show KI v Y y1 m0 q' r' ∧ r' < 4294967296 from ⟨j3, by omega⟩)
              have HQ : Hid (q' < qh) := by show _ < _; have := Eq'.out; omega
              clear j1 j2 j3 hy1b hqb hB hI hA
              go_wp2
              go_round
              case rel => exact ⟨q', r', rfl, rfl, HJ⟩
              case measure => simp [intOf]; exact HQ.out
          · have g1 : decide ((4294967296 : Int) ≤ (qh : Int)) = false := by rw [decide_eq_false_iff_not]; omega
            obtain ⟨P, EP⟩ : ∃ P, Hid (P = qh * y0) := ⟨_, rfl⟩
            have hP : P < 18446744073709551616 := by
              rw [EP.out]; have h1 := KD2.out.y0
              have h2 : qh * y0 ≤ 4294967295 * 4294967295 := Nat.mul_le_mul (by omega) (by omega)
              omega
            have g6 : IntKind.u64.wrap ((qh : Int) * (y0 : Int)) = (P : Int) := by
              have e : ((qh : Int) * (y0 : Int)) = (P : Int) := by rw [EP.out, Int.natCast_mul]
              rw [e]; exact wrap_nat _ hP
            obtain ⟨R1, ER1⟩ : ∃ R1, Hid (R1 = 4294967296 * rh) := ⟨_, rfl⟩
            have hrh := hI.2
            have hmb := KD2.out.n
            have g7 : IntKind.u64.wrap (4294967296 * (rh : Int)) = (R1 : Int) := by rw [IntKind.wrap_u64, ER1.out]; omega
            obtain ⟨R2, ER2⟩ : ∃ R2, Hid (R2 = R1 + m0) := ⟨_, rfl⟩
            have g8 : IntKind.u64.wrap ((R1 : Int) + (m0 : Int)) = (R2 : Int) := by rw [IntKind.wrap_u64, ER2.out, ER1.out]; omega
            have hR2 : R2 = 4294967296 * rh + m0 := by rw [ER2.out, ER1.out]
            by_cases hlt2 : R2 < P
            · have g9 : decide (R2 < P) = true := by rw [decide_eq_true_eq]; exact hlt2
              have hC : 4294967296 * rh + m0 < qh * y0 := by rw [← hR2, ← EP.out]; exact hlt2
              clear hP hrh hmb hR2 hlt2
              obtain ⟨j1, j2, j3⟩ := KI.step KD2.out hI.1 (Or.inr hC)
              obtain ⟨q', Eq'⟩ : ∃ q', Hid (q' = qh - 1) := ⟨_, rfl⟩
              obtain ⟨r', Er'⟩ : ∃ r', Hid (r' = rh + y1) := ⟨_, rfl⟩
              have hy1b := KD2.out.y1.2
              have hqb := hI.1.hi
              have g3 : IntKind.u64.wrap ((qh : Int) - 1) = (q' : Int) := by rw [IntKind.wrap_u64, Eq'.out]; omega
              have g4 : IntKind.u64.wrap ((rh : Int) + (y1 : Int)) = (r' : Int) := by rw [IntKind.wrap_u64, Er'.out]; have := hI.2; omega
              rw [← Eq'.out, ← Er'.out] at j3
              rw [← Eq'.out] at j2
              by_cases hB : 4294967296 ≤ r'
              · have g5 : decide ((4294967296 : Int) ≤ (r' : Int)) = true := by rw [decide_eq_true_eq]; omega
                obtain rfl : k0 = q' := by rw [Ek0.out]; exact (KI.over KD2.out j3 j2 hB).symm
                clear j1 j2 j3 hy1b hqb hB hI hA hC
                go_wp2
                go_ret2
                have hfin := shift_div (num h l) y s (k1 * 4294967296 + k0) R (by rw [HN.out, ← Ek1.out, ← Ev.out, ← Ek0.out, ← ER.out, ← EY.out]) (by rw [ER.out, ← EY.out]; exact kr_lt KD2.out)
                exact ⟨ret_two (congrArg Nat.cast (by rw [hfin.1, EQ.out])) (by rw [← Int.natCast_emod, hfin.2, EF.out]), Below.refl _ _⟩
              · have g5 : decide ((4294967296 : Int) ≤ (r' : Int)) = false := by rw [decide_eq_false_iff_not]; omega
                have HJ := Lib.hid (show KI v Y y1 m0 q' r' ∧ r' < 4294967296 from ⟨j3, by omega⟩)
                have HQ : Hid (q' < qh) := by show _ < _; have := Eq'.out; omega
                clear j1 j2 j3 hy1b hqb hB hI hA hC
                go_wp2
                go_round
                case rel => exact ⟨q', r', rfl, rfl, HJ⟩
                case measure => simp [intOf]; exact HQ.out
            · have g9 : decide (R2 < P) = false := by rw [decide_eq_false_iff_not]; exact hlt2
              obtain rfl : k0 = qh := by rw [Ek0.out]; exact (KI.done KD2.out hI.1 (by rw [← hR2, ← EP.out]; omega)).symm
              clear hP hrh hmb hR2 hlt2 hI hA
              go_wp2
              go_ret2
              have hfin := shift_div (num h l) y s (k1 * 4294967296 + k0) R (by rw [HN.out, ← Ek1.out, ← Ev.out, ← Ek0.out, ← ER.out, ← EY.out]) (by rw [ER.out, ← EY.out]; exact kr_lt KD2.out)
              exact ⟨ret_two (congrArg Nat.cast (by rw [hfin.1, EQ.out])) (by rw [← Int.natCast_emod, hfin.2, EF.out]), Below.refl _ _⟩
end Go.Proofs.Ytlfbiidnfheelaa
