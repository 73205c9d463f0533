/- Contracts of the plain answers of layer 5: sums and differences by halves, the nearer one. -/
import Derived.Test.YtlfbiidnfheelaaDurE
namespace Go.Proofs.Ytlfbiidnfheelaa
set_option linter.unusedVariables false
set_option linter.unusedSimpArgs false
open Go.ChangeShapes Go.WideShapes Go.ChangeAt Go.RowKit

theorem zw_sub2 (x y : Int) : zw (x - y) = if zw y ≤ zw x then zw x - zw y else zw x + 340282366920938463463374607431768211456 - zw y := by
  unfold zw; split <;> omega
theorem zw_add2 (x y : Int) : zw (x + y) = if zw x + zw y < 340282366920938463463374607431768211456 then zw x + zw y else zw x + zw y - 340282366920938463463374607431768211456 := by
  unfold zw; split <;> omega
theorem zw_hl (x : Int) : zw x = zh x * 18446744073709551616 + zl x ∧ zh x < 18446744073709551616 ∧ zl x < 18446744073709551616 := by
  have h := zw_lt x
  unfold zh zl hi lo; omega
theorem hl_of_zw {x : Int} {h l : Nat} (e : zw x = h * 18446744073709551616 + l) (hl : l < 18446744073709551616) : zh x = h ∧ zl x = l := by
  have h2 := zw_lt x
  unfold zh zl hi lo
  rw [e] at h2 ⊢
  omega
theorem less_parts (x y : Int) : ∃ p : Nat, IntKind.u64.wrap ((zh x : Int) - (zh y : Int)) = (p : Int) ∧ IntKind.u64.wrap ((zl x : Int) - (zl y : Int)) = (zl (x - y) : Int) ∧
    (zl x < zl y → IntKind.u64.wrap ((p : Int) - 1) = (zh (x - y) : Int)) ∧ (¬ zl x < zl y → p = zh (x - y)) := by
  obtain ⟨a1, a2, a3⟩ := zw_hl x
  obtain ⟨b1, b2, b3⟩ := zw_hl y
  have h := zw_sub2 x y
  rw [a1, b1] at h
  generalize zh x = a at *
  generalize zl x = b at *
  generalize zh y = c at *
  generalize zl y = d at *
  clear a1 b1
  refine ⟨(a + 18446744073709551616 - c) % 18446744073709551616, ?_, ?_⟩
  · rw [IntKind.wrap_u64]; omega
  by_cases hb : b < d
  · have e : zw (x - y) = ((a + 18446744073709551616 - c + 18446744073709551615) % 18446744073709551616) * 18446744073709551616 + (b + 18446744073709551616 - d) := by
      rw [h]; split <;> omega
    obtain ⟨e1, e2⟩ := hl_of_zw e (by omega)
    rw [e1, e2, IntKind.wrap_u64, IntKind.wrap_u64]
    clear h e e1 e2
    refine ⟨by omega, fun _ => by omega, fun h => absurd hb h⟩
  · have e : zw (x - y) = ((a + 18446744073709551616 - c) % 18446744073709551616) * 18446744073709551616 + (b - d) := by
      rw [h]; split <;> omega
    obtain ⟨e1, e2⟩ := hl_of_zw e (by omega)
    rw [e1, e2, IntKind.wrap_u64]
    clear h e e1 e2
    refine ⟨by omega, fun h => absurd h hb, fun _ => rfl⟩
theorem more_parts (x y : Int) : ∃ p : Nat, IntKind.u64.wrap ((zh x : Int) + (zh y : Int)) = (p : Int) ∧ IntKind.u64.wrap ((zl x : Int) + (zl y : Int)) = (zl (x + y) : Int) ∧
    (zl (x + y) < zl x → IntKind.u64.wrap ((p : Int) + 1) = (zh (x + y) : Int)) ∧ (¬ zl (x + y) < zl x → p = zh (x + y)) := by
  obtain ⟨a1, a2, a3⟩ := zw_hl x
  obtain ⟨b1, b2, b3⟩ := zw_hl y
  have h := zw_add2 x y
  rw [a1, b1] at h
  generalize zh x = a at *
  generalize zl x = b at *
  generalize zh y = c at *
  generalize zl y = d at *
  clear a1 b1
  refine ⟨(a + c) % 18446744073709551616, ?_, ?_⟩
  · rw [IntKind.wrap_u64]; omega
  by_cases hb : b + d < 18446744073709551616
  · have e : zw (x + y) = ((a + c) % 18446744073709551616) * 18446744073709551616 + (b + d) := by
      rw [h]; split <;> omega
    obtain ⟨e1, e2⟩ := hl_of_zw e (by omega)
    rw [e1, e2, IntKind.wrap_u64]
    clear h e e1 e2
    refine ⟨by omega, fun h => by omega, fun _ => rfl⟩
  · have e : zw (x + y) = ((a + c + 1) % 18446744073709551616) * 18446744073709551616 + (b + d - 18446744073709551616) := by
      rw [h]; split <;> omega
    obtain ⟨e1, e2⟩ := hl_of_zw e (by omega)
    rw [e1, e2, IntKind.wrap_u64, IntKind.wrap_u64]
    clear h e e1 e2
    refine ⟨by omega, fun h => by omega, fun h => absurd (by omega) h⟩
set_option maxHeartbeats 1600000 in
set_option maxRecDepth 100000 in
theorem less_any (x y : Int) (w : World) : Calls Try.prog 48 #[.agg #[.int .u64 (zh x), .int .u64 (zl x)], .agg #[.int .u64 (zh y), .int .u64 (zl y)]] w fun e w' => e = .returned (.agg #[.int .u64 (zh (x - y)), .int .u64 (zl (x - y))]) ∧ Below w.heap.size w w' := by
  obtain ⟨p, f1, f2, f3, f4⟩ := less_parts x y
  by_cases hb : zl x < zl y
  · have g1 := f3 hb
    have hd : decide (zl x < zl y) = true := decide_eq_true hb
    clear f3 f4
    generalize zh (x - y) = a at *
    generalize zl (x - y) = b at *
    generalize zh x = c at *
    generalize zl x = d at *
    generalize zh y = e at *
    generalize zl y = f at *
    go_enter Try.func48, Try.ntmps48
    refine wp_shut ?_
    go_wp2
    refine shut_ret (v := .agg #[.int .u64 a, .int .u64 b]) (by simp [results, Try.results48, go_sem]) rfl ⟨rfl, ?_⟩
    go_grown
  · have g1 := f4 hb
    have hd : decide (zl x < zl y) = false := decide_eq_false hb
    subst g1
    clear f3 f4
    generalize zh (x - y) = a at *
    generalize zl (x - y) = b at *
    generalize zh x = c at *
    generalize zl x = d at *
    generalize zh y = e at *
    generalize zl y = f at *
    go_enter Try.func48, Try.ntmps48
    refine wp_shut ?_
    go_wp2
    refine shut_ret (v := .agg #[.int .u64 a, .int .u64 b]) (by simp [results, Try.results48, go_sem]) rfl ⟨rfl, ?_⟩
    go_grown
set_option maxHeartbeats 1600000 in
set_option maxRecDepth 100000 in
theorem more_any (x y : Int) (w : World) : Calls Try.prog 26 #[.agg #[.int .u64 (zh x), .int .u64 (zl x)], .agg #[.int .u64 (zh y), .int .u64 (zl y)]] w fun e w' => e = .returned (.agg #[.int .u64 (zh (x + y)), .int .u64 (zl (x + y))]) ∧ Below w.heap.size w w' := by
  obtain ⟨p, f1, f2, f3, f4⟩ := more_parts x y
  by_cases hb : zl (x + y) < zl x
  · have g1 := f3 hb
    have hd : decide (zl (x + y) < zl x) = true := decide_eq_true hb
    clear f3 f4
    generalize zh (x + y) = a at *
    generalize zl (x + y) = b at *
    generalize zh x = c at *
    generalize zl x = d at *
    generalize zh y = e at *
    generalize zl y = f at *
    go_enter Try.func26, Try.ntmps26
    refine wp_shut ?_
    go_wp2
    refine shut_ret (v := .agg #[.int .u64 a, .int .u64 b]) (by simp [results, Try.results26, go_sem]) rfl ⟨rfl, ?_⟩
    go_grown
  · have g1 := f4 hb
    have hd : decide (zl (x + y) < zl x) = false := decide_eq_false hb
    subst g1
    clear f3 f4
    generalize zh (x + y) = a at *
    generalize zl (x + y) = b at *
    generalize zh x = c at *
    generalize zl x = d at *
    generalize zh y = e at *
    generalize zl y = f at *
    go_enter Try.func26, Try.ntmps26
    refine wp_shut ?_
    go_wp2
    refine shut_ret (v := .agg #[.int .u64 a, .int .u64 b]) (by simp [results, Try.results26, go_sem]) rfl ⟨rfl, ?_⟩
    go_grown
end Go.Proofs.Ytlfbiidnfheelaa
