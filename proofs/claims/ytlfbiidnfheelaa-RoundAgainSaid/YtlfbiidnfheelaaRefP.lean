/- Contract of the plain answer of layer 1: quotient and rest. -/
import Derived.Test.YtlfbiidnfheelaaRefM
import Derived.WalkKit
import Derived.ProofKit
import Derived.OpenShut
import Derived.Handy
import Derived.Outline
import Derived.Lib.Hide
import Derived.Test.YtlfbiidnfheelaaLotP
namespace Go.Proofs.Ytlfbiidnfheelaa
set_option linter.unusedVariables false
open Go.ChangeShapes Go.WideShapes Go.ChangeAt Go.RowKit

theorem lt_of_heap {w : World} {k : Nat} {o : Obj} (h : w.heap[k]? = some o) : k < w.heap.size := by
  rcases Nat.lt_or_ge k w.heap.size with h1 | h1
  · exact h1
  · rw [Array.getElem?_eq_none h1] at h; cases h
structure Dst (n : Nat) (w wr : World) (f g : Nat → Bool) : Prop where
  x : wr.heap[n]? = some (.cells (bv f) 89 (0, 0))
  q : wr.heap[n + 1]? = some (.cells (bv g) 89 (0, 0))
  b : Below n w wr
theorem Dst.setQ {n : Nat} {w wr : World} {f g : Nat → Bool} (h : Dst n w wr f g) (k : Nat) (x : Bool) : Dst n w (wr.setCell ⟨n + 1, k, none⟩ (.bool x)) f (upd g k x) :=
  ⟨by rw [Below.heap_setCell _ _ _ _ (by show n ≠ n + 1; omega)]; exact h.x, heap_setCell_bv x h.q, h.b.setCell (by show n ≤ n + 1; omega) _⟩
theorem Dst.cellX {n : Nat} {w wr : World} {f g : Nat → Bool} (h : Dst n w wr f g) (k : Nat) (hk : k < 128) : wr.cell? ⟨n, k, none⟩ = some (.bool (f k)) := by
  rw [cell_of_row _ _ _ _ _ _ h.x, bv_get f k hk]
theorem Dst.cellQ {n : Nat} {w wr : World} {f g : Nat → Bool} (h : Dst n w wr f g) (k : Nat) (hk : k < 128) : wr.cell? ⟨n + 1, k, none⟩ = some (.bool (g k)) := by
  rw [cell_of_row _ _ _ _ _ _ h.q, bv_get g k hk]
theorem Dst.freeQ {n : Nat} {w wr : World} {f g : Nat → Bool} (h : Dst n w wr f g) (k : Nat) : wr.frozen? ⟨n + 1, k, none⟩ = false := by simp [World.frozen?, h.q]
theorem Dst.congr {n : Nat} {w wr : World} {f g f' g' : Nat → Bool} (h : Dst n w wr f g) (hf : bv f = bv f') (hg : bv g = bv g') : Dst n w wr f' g' :=
  ⟨by rw [← hf]; exact h.x, by rw [← hg]; exact h.q, h.b⟩

/-- the quotient's bits while they are laid from the top down. -/
def qq (Q k : Nat) : Nat → Bool := fun j => decide (k ≤ j) && Q.testBit j
theorem qq_start (Q : Nat) : bv (qq Q 128) = bv fun _ => false := bv_congr fun j hj => by simp [qq, show ¬ 128 ≤ j by omega]
theorem qq_zero (Q : Nat) : qq Q 0 = Nat.testBit Q := by funext j; simp [qq]
theorem qq_set (Q i : Nat) (h : Q.testBit i = true) : upd (qq Q (i + 1)) i true = qq Q i := by
  funext j
  simp only [upd, qq]
  by_cases h1 : j = i
  · subst h1; simp [h]
  · rw [if_neg h1, show decide (i + 1 ≤ j) = decide (i ≤ j) by rw [decide_eq_decide]; omega]
theorem qq_keep (Q i : Nat) (h : Q.testBit i = false) : qq Q (i + 1) = qq Q i := by
  funext j
  simp only [qq]
  by_cases h1 : j = i
  · subst h1; simp [h]
  · rw [show decide (i + 1 ≤ j) = decide (i ≤ j) by rw [decide_eq_decide]; omega]
theorem div_step (A b i : Nat) (hb : 0 < b) : let r := A / 2 ^ (i + 1) % b; let r2 := 2 * r + (A.testBit i).toNat
    (A / b).testBit i = decide (b ≤ r2) ∧ A / 2 ^ i % b = (if b ≤ r2 then r2 - b else r2) ∧ r < b := by
  intro r r2
  have hM : A / 2 ^ i = 2 * (A / 2 ^ (i + 1)) + (A.testBit i).toNat := by
    rw [Nat.pow_succ, ← Nat.div_div_eq_div_mul, Nat.testBit_eq_decide_div_mod_eq]
    generalize A / 2 ^ i = M
    by_cases h : M % 2 = 1
    · simp [h]; omega
    · simp [h]; omega
  have hr : r < b := Nat.mod_lt _ hb
  have hq : (A / b).testBit i = decide ((A / 2 ^ i) / b % 2 = 1) := by
    rw [Nat.testBit_eq_decide_div_mod_eq, Nat.div_div_eq_div_mul, Nat.div_div_eq_div_mul, Nat.mul_comm b]
  have hd : A / 2 ^ (i + 1) = b * (A / 2 ^ (i + 1) / b) + r := (Nat.div_add_mod _ _).symm
  have hb2 : (A.testBit i).toNat < 2 := by cases A.testBit i <;> decide
  have e : A / 2 ^ i = b * (2 * (A / 2 ^ (i + 1) / b)) + r2 := by
    rw [hM]
    have : r2 = 2 * r + (A.testBit i).toNat := rfl
    rw [this]
    generalize A / 2 ^ (i + 1) / b = Qq at *
    generalize A / 2 ^ (i + 1) = M at *
    have : b * (2 * Qq) = 2 * (b * Qq) := by rw [Nat.mul_left_comm]
    omega
  generalize A / 2 ^ (i + 1) / b = Qq at e
  rw [hq]
  have hr2 : r2 < 2 * b := by show 2 * r + _ < 2 * b; omega
  by_cases hc : b ≤ r2
  · have e1 : A / 2 ^ i = b * (2 * Qq + 1) + (r2 - b) := by rw [e, Nat.mul_add]; omega
    refine ⟨?_, ?_, hr⟩
    · rw [e1, Nat.mul_add_div hb, Nat.div_eq_of_lt (by omega)]; simp [hc]
    · rw [e1, Nat.mul_add_mod, Nat.mod_eq_of_lt (by omega), if_pos hc]
  · refine ⟨?_, ?_, hr⟩
    · rw [e, Nat.mul_add_div hb, Nat.div_eq_of_lt (by omega)]; simp [hc]
    · rw [e, Nat.mul_add_mod, Nat.mod_eq_of_lt (by omega), if_neg hc]

theorem or_one (x y : Nat) (hx : x = 2 * y) (h : U x) : bits .or .u64 (x : Int) 1 = ((x + 1 : Nat) : Int) := by
  have := u64_or_nat x 1 h (by omega)
  rw [show ((1 : Nat) : Int) = 1 from rfl] at this
  rw [this, hx]
  have h2 := Nat.two_pow_add_eq_or_of_lt (show 1 < 2 ^ 1 by omega) y
  rw [Nat.pow_one] at h2
  rw [← h2]

set_option maxHeartbeats 400000 in
set_option maxRecDepth 100000 in
theorem refDiv_zero (h l : Nat) (w : World) : Calls Try.prog 84 #[.agg #[.int .u64 h, .int .u64 l], .int .u64 0] w fun e w' => e = .returned (.tuple #[.agg #[.int .u64 0, .int .u64 0], .int .u64 0, .int .i64 5]) ∧ Below w.heap.size w w' := by
  go_enter Try.func84, Try.ntmps84
  refine wp_shut ?_
  go_wp2
  refine shut_ret (v := .tuple #[.agg #[.int .u64 0, .int .u64 0], .int .u64 0, .int .i64 5]) (by simp [results, Try.results84, go_sem]) rfl ⟨rfl, ?_⟩
  go_grown

set_option maxHeartbeats 1600000 in
set_option maxRecDepth 100000 in
theorem refDiv_any (h l b : Nat) (hh : U h) (hl : U l) (hb : U b) (hb0 : 0 < b) (w : World) : Calls Try.prog 84 #[.agg #[.int .u64 h, .int .u64 l], .int .u64 b] w fun e w' =>
    e = .returned (.tuple #[.agg #[.int .u64 (hi (num h l / b)), .int .u64 (lo (num h l / b))], .int .u64 (num h l % b : Nat), .int .i64 0]) ∧ Below w.heap.size w w' := by
  have hz := zvBits
  have hbi : ((b : Int) == 0) = false := by rw [beq_eq_false_iff_ne]; omega
  go_enter Try.func84, Try.ntmps84
  refine wp_shut ?_
  go_wp2_with fail
  refine (bits_any h l hh hl _).mono ?_
  rintro e w1 ⟨rfl, hb1⟩
  obtain ⟨hc, hf⟩ := bcell hb1
  have hg0 := heap_alloc_new w1 (.cells (bv fun _ => false) 89)
  have HB1 := Lib.hid hb1
  clear hb1
  have hA := num_lt hh hl
  generalize hA2 : num h l = A at *
  have HA := Lib.hid hA2
  clear hA2
  go_wp2_with (first
    | (refine wpList_store_row (by rfl) 89 (.tmp 7) (.tmp 16) (by rfl) w1.heap.size (bv A.testBit) (by rfl) (by rfl) 89 (bv fun _ => false) hg0 (infoBv _) (by rw [bv_size, bv_size]) (bv_one _) ?_; rw [World.setRow_alloc_new]; clear hg0))
  have HD0 : Hid (Dst w1.heap.size w1 ((w1.alloc (.cells (bv A.testBit) 89)).alloc (.cells (bv fun _ => false) 89)) A.testBit (fun _ => false)) :=
    ⟨by simpa using heap_alloc2_old w1 _ _, by simpa using heap_alloc_new (w1.alloc _) _, below2 _ _ _⟩
  clear hz
  go_loopw [9, 10] (fun s9 s10 wr => ∃ k : Nat, k ≤ 128 ∧ s10 = .int .i64 ((k : Int) - 1) ∧ s9 = .int .u64 ((A / 2 ^ k % b : Nat) : Int) ∧ Dst w1.heap.size w1 wr A.testBit (qq (A / b) k)) (fun _ s10 _ => (intOf s10 + 1).toNat)
  case atStart => exact ⟨128, by omega, by go_num, by rw [Nat.div_eq_of_lt hA, Nat.zero_mod]; rfl, HD0.out.congr rfl (qq_start _).symm⟩
  case round =>
    obtain ⟨k, hk, rfl, rfl, hX⟩ := hrel
    clear HD0
    by_cases hk0 : 0 < k
    · obtain ⟨i, rfl⟩ : ∃ i, k = i + 1 := ⟨k - 1, by omega⟩
      obtain ⟨d1, d2, d3⟩ := div_step A b i hb0
      have ek : ((i + 1 : Nat) : Int) - 1 = (i : Int) := by omega
      rw [ek]
      have HX := Lib.hid hX
      have x1c := hX.cellX i (by omega)
      have x2 := hX.cellQ i (by omega)
      have xf := hX.freeQ i
      have H1 := Lib.hid d1
      have H2 := Lib.hid d2
      generalize A / 2 ^ (i + 1) % b = r at *
      clear hX d1 d2 ek
      obtain ⟨x0, E0⟩ : ∃ x0, Hid (x0 = 2 * (r % 9223372036854775808)) := ⟨_, rfl⟩
      have hx0 : x0 = 2 * (r % 9223372036854775808) := E0.out
      have hrU : r < 18446744073709551616 := Nat.lt_trans d3 hb
      have e0 : IntKind.u64.wrap ((r : Int) * 2) = (x0 : Int) := by rw [IntKind.wrap_u64]; omega
      cases hbit : A.testBit i <;> rw [hbit] at x1c <;> (have HT := Lib.hid hbit; clear hbit)
      · obtain ⟨x1, E1⟩ : ∃ x1, Hid (x1 = x0) := ⟨_, rfl⟩
        obtain rfl : x1 = x0 := E1.out
        have hr2 : (2 * r + (A.testBit i).toNat) = 2 * r + 0 := by rw [HT.out]; rfl
        have h1q := H1.out; have h2q := H2.out
        rw [hr2] at h1q h2q
        by_cases h2 : 9223372036854775808 ≤ r
        · have ho : decide ((9223372036854775808 : Int) ≤ (r : Int)) = true := by rw [decide_eq_true_eq]; omega
          have hqb : (A / b).testBit i = true := by rw [h1q, decide_eq_true_eq]; unfold U at hb; omega
          have e3 : IntKind.u64.wrap ((x1 : Int) - (b : Int)) = ((A / 2 ^ i % b : Nat) : Int) := by rw [h2q, if_pos (by unfold U at hb; omega), IntKind.wrap_u64]; unfold U at hb; omega
          have HQ := Lib.hid (qq_set (A / b) i hqb)
          generalize hR : A / 2 ^ i % b = R at *
          have HR := Lib.hid hR
          clear hR
          clear h1q h2q h2 hqb hr2 H1 H2 d3 HT E0 E1 hb hx0 hrU
          go_wp2
          go_roundw
          case rel => exact ⟨i, by omega, rfl, by rw [HR.out], by rw [← HQ.out]; exact HX.out.setQ i true⟩
          case measure => simp [intOf]
        · have ho : decide ((9223372036854775808 : Int) ≤ (r : Int)) = false := by rw [decide_eq_false_iff_not]; omega
          by_cases h3 : b ≤ x1
          · have hc1 : decide (b ≤ x1) = true := by rw [decide_eq_true_eq]; omega
            have hqb : (A / b).testBit i = true := by rw [h1q, decide_eq_true_eq]; omega
            have e3 : IntKind.u64.wrap ((x1 : Int) - (b : Int)) = ((A / 2 ^ i % b : Nat) : Int) := by rw [h2q, if_pos (by omega), IntKind.wrap_u64]; unfold U at hb; omega
            have HQ := Lib.hid (qq_set (A / b) i hqb)
            generalize hR : A / 2 ^ i % b = R at *
            have HR := Lib.hid hR
            clear hR
            clear h1q h2q h2 hqb hr2 H1 H2 d3 HT E0 E1 hb hx0 hrU h3
            go_wp2
            go_roundw
            case rel => exact ⟨i, by omega, rfl, by rw [HR.out], by rw [← HQ.out]; exact HX.out.setQ i true⟩
            case measure => simp [intOf]
          · have hc1 : decide (b ≤ x1) = false := by rw [decide_eq_false_iff_not]; omega
            have hqb : (A / b).testBit i = false := by rw [h1q, decide_eq_false_iff_not]; omega
            have e3 : (x1 : Int) = ((A / 2 ^ i % b : Nat) : Int) := by rw [h2q, if_neg (by omega)]; omega
            have E3 := Lib.hid e3
            have HQ := Lib.hid (qq_keep (A / b) i hqb)
            generalize hR : A / 2 ^ i % b = R at *
            have HR := Lib.hid hR
            clear hR
            clear h1q h2q h2 hqb hr2 H1 H2 d3 HT E0 E1 hb hx0 hrU h3 e3
            go_wp2
            go_roundw
            case rel => exact ⟨i, by omega, rfl, by rw [E3.out, HR.out], by rw [← HQ.out]; exact HX.out⟩
            case measure => simp [intOf]
      · obtain ⟨x1, E1⟩ : ∃ x1, Hid (x1 = x0 + 1) := ⟨_, rfl⟩
        have hx1 : x1 = x0 + 1 := E1.out
        have e1 : bits .or .u64 (x0 : Int) 1 = (x1 : Int) := by rw [or_one x0 _ hx0 (by unfold U; omega), hx1]
        have hr2 : (2 * r + (A.testBit i).toNat) = 2 * r + 1 := by rw [HT.out]; rfl
        have h1q := H1.out; have h2q := H2.out
        rw [hr2] at h1q h2q
        by_cases h2 : 9223372036854775808 ≤ r
        · have ho : decide ((9223372036854775808 : Int) ≤ (r : Int)) = true := by rw [decide_eq_true_eq]; omega
          have hqb : (A / b).testBit i = true := by rw [h1q, decide_eq_true_eq]; unfold U at hb; omega
          have e3 : IntKind.u64.wrap ((x1 : Int) - (b : Int)) = ((A / 2 ^ i % b : Nat) : Int) := by rw [h2q, if_pos (by unfold U at hb; omega), IntKind.wrap_u64]; unfold U at hb; omega
          have HQ := Lib.hid (qq_set (A / b) i hqb)
          generalize hR : A / 2 ^ i % b = R at *
          have HR := Lib.hid hR
          clear hR
          clear h1q h2q h2 hqb hr2 H1 H2 d3 HT E0 E1 hb hx0 hrU hx1
          go_wp2
          go_roundw
          case rel => exact ⟨i, by omega, rfl, by rw [HR.out], by rw [← HQ.out]; exact HX.out.setQ i true⟩
          case measure => simp [intOf]
        · have ho : decide ((9223372036854775808 : Int) ≤ (r : Int)) = false := by rw [decide_eq_false_iff_not]; omega
          by_cases h3 : b ≤ x1
          · have hc1 : decide (b ≤ x1) = true := by rw [decide_eq_true_eq]; omega
            have hqb : (A / b).testBit i = true := by rw [h1q, decide_eq_true_eq]; omega
            have e3 : IntKind.u64.wrap ((x1 : Int) - (b : Int)) = ((A / 2 ^ i % b : Nat) : Int) := by rw [h2q, if_pos (by omega), IntKind.wrap_u64]; unfold U at hb; omega
            have HQ := Lib.hid (qq_set (A / b) i hqb)
            generalize hR : A / 2 ^ i % b = R at *
            have HR := Lib.hid hR
            clear hR
            clear h1q h2q h2 hqb hr2 H1 H2 d3 HT E0 E1 hb hx0 hrU hx1 h3
            go_wp2
            go_roundw
            case rel => exact ⟨i, by omega, rfl, by rw [HR.out], by rw [← HQ.out]; exact HX.out.setQ i true⟩
            case measure => simp [intOf]
          · have hc1 : decide (b ≤ x1) = false := by rw [decide_eq_false_iff_not]; omega
            have hqb : (A / b).testBit i = false := by rw [h1q, decide_eq_false_iff_not]; omega
            have e3 : (x1 : Int) = ((A / 2 ^ i % b : Nat) : Int) := by rw [h2q, if_neg (by omega)]; omega
            have E3 := Lib.hid e3
            have HQ := Lib.hid (qq_keep (A / b) i hqb)
            generalize hR : A / 2 ^ i % b = R at *
            have HR := Lib.hid hR
            clear hR
            clear h1q h2q h2 hqb hr2 H1 H2 d3 HT E0 E1 hb hx0 hrU hx1 h3 e3
            go_wp2
            go_roundw
            case rel => exact ⟨i, by omega, rfl, by rw [E3.out, HR.out], by rw [← HQ.out]; exact HX.out⟩
            case measure => simp [intOf]
    · obtain rfl : k = 0 := by omega
      have hX2 := hX
      rw [qq_zero] at hX2
      have hlt : A / b < 340282366920938463463374607431768211456 := Nat.lt_of_le_of_lt (Nat.div_le_self _ _) hA
      have HV := Lib.hid (show val (Nat.testBit (A / b)) 128 = A / b by rw [val_testBit]; exact Nat.mod_eq_of_lt hlt)
      have HR := Lib.hid (show A / 2 ^ 0 % b = A % b by rw [Nat.pow_zero, Nat.div_one])
      have hgq := hX2.q
      have hbel := hX2.b
      have hz1 : w.heap.size + 1 < w1.heap.size := by have := HB1.out.size; simp at this; omega
      have hB1 : Below w.heap.size w w1 := (below2 w _ _).trans (HB1.out.mono (by simp; omega))
      have hres : wr.heap[w.heap.size + 1]? = some (.cells #[.int .u64 0, .int .u64 0] 24) := by
        rw [hbel.block _ hz1, HB1.out.block _ (by simp)]; simpa using heap_alloc_new (w.alloc _) _
      have HRES := Lib.hid hres
      have HBEL := Lib.hid (hB1.trans (hbel.mono (by omega)))
      have HZ := Lib.hid hz1
      clear hX hX2 hbel hB1 hres hz1 hlt hc hf hbi
      generalize hQ2 : A / b = Qq at *
      have HQQ := Lib.hid hQ2
      clear hQ2
      generalize A / 2 ^ 0 % b = R at *
      go_wp2_with (first
        | (refine wpList_load_row (by rfl) 89 (.tmp 8) (by rfl) (w1.heap.size + 1) (by rfl) 89 (bv (Nat.testBit Qq)) (0, 0) _ hgq Try.underlying89 (by rfl) (infoBv _) ?_; clear hgq))
      refine (wide_any _ _).mono ?_
      rintro e w2 ⟨rfl, hb2⟩
      have hlast : w2.heap[w.heap.size + 1]? = some (.cells #[.int .u64 0, .int .u64 0] 24) := by rw [hb2.block _ (lt_of_heap HRES.out)]; exact HRES.out
      have k0 : w2.cell? ⟨w.heap.size + 1, 0, none⟩ = some (.int .u64 0) := cell_of_row _ _ _ _ _ _ hlast
      have k1 : w2.cell? ⟨w.heap.size + 1, 1, none⟩ = some (.int .u64 0) := cell_of_row _ _ _ _ _ _ hlast
      have kf0 : w2.frozen? ⟨w.heap.size + 1, 0, none⟩ = false := by simp [World.frozen?, hlast]
      have kf1 : w2.frozen? ⟨w.heap.size + 1, 1, none⟩ = false := by simp [World.frozen?, hlast]
      have HB := Lib.hid (HBEL.out.trans (hb2.mono (by have := lt_of_heap HRES.out; omega)))
      clear hlast hb2
      go_wp2
      refine shut_ret (v := .tuple #[.agg #[.int .u64 (hi Qq), .int .u64 (lo Qq)], .int .u64 (A % b : Nat), .int .i64 0]) (by simp [results, Try.results84, go_sem, k0, k1, HV.out, HR.out]) rfl ⟨by rw [HA.out, HQQ.out], ?_⟩
      exact (HB.out.setCell (by show w.heap.size ≤ w.heap.size + 1; omega) _).setCell (by show w.heap.size ≤ w.heap.size + 1; omega) _
end Go.Proofs.Ytlfbiidnfheelaa
