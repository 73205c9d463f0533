/- Several texts in one: DurA, DurB, DurC, DurD. -/
import Derived.Test.YtaoljjhhbmblhaaDoorZRef1
import Derived.Test.YtaoljjhhbmblhaaDoorZInst1
import Derived.Lib.Zigzag
namespace Go.Proofs.YtaoljjhhbmblhaaDoor
set_option linter.unusedVariables false
set_option linter.unusedSimpArgs false
open Go.ChangeShapes Go.WideShapes Go.ChangeAt Go.RowKit
@[irreducible] def duE (T : Int) : Int := if -1099511627776000000000 ≤ T ∧ T ≤ 1099511627776000000000 then 0 else 8
@[irreducible] def duS (T : Int) : Int := if -1099511627776000000000 ≤ T ∧ T ≤ 1099511627776000000000 then T / 1000000000 else 0
@[irreducible] def duN (T : Int) : Int := if -1099511627776000000000 ≤ T ∧ T ≤ 1099511627776000000000 then T % 1000000000 else 0
theorem dd_yes {T : Int} (h : -1099511627776000000000 ≤ T ∧ T ≤ 1099511627776000000000) : duS T = T / 1000000000 ∧ duN T = T % 1000000000 ∧ duE T = 0 := by
  unfold duS duN duE; exact ⟨if_pos h, if_pos h, if_pos h⟩
theorem dd_no {T : Int} (h : ¬ (-1099511627776000000000 ≤ T ∧ T ≤ 1099511627776000000000)) : duS T = 0 ∧ duN T = 0 ∧ duE T = 8 := by
  unfold duS duN duE; exact ⟨if_neg h, if_neg h, if_neg h⟩
theorem dd_ck (T : Int) : ckD (T / 1000000000) (T % 1000000000) = duE T := by
  have hw : wmB (T % 1000000000) = true := wmB_true (by omega) (by omega)
  by_cases h : -1099511627776000000000 ≤ T ∧ T ≤ 1099511627776000000000
  · rw [(dd_yes h).2.2]; exact ckD_ok hw (by omega)
  · rw [(dd_no h).2.2]; exact ckD_out hw (by omega)
theorem not_u64 (k : Nat) (u : U k) : bits .xor .u64 IntKind.u64.max (k : Int) = ((18446744073709551615 - k : Nat) : Int) := by
  unfold U at u
  have e2 : IntKind.u64.max = ((2 ^ 64 - 1 : Nat) : Int) := by decide
  rw [e2, bits_xor_u64_nat _ _ (by decide) (by omega), Lib.xor_ones64 _ (by omega)]
theorem zh_not (x : Int) : bits .xor .u64 IntKind.u64.max (zh x : Int) = (zh (-1 - x) : Int) ∧ bits .xor .u64 IntKind.u64.max (zl x : Int) = (zl (-1 - x) : Int) := by
  rw [not_u64 _ (zh_U x), not_u64 _ (zl_U x)]
  unfold zh zl hi lo zw
  omega
theorem over_any (x : Int) (w : World) : Calls Tryd.prog 93 #[.agg #[.int .u64 (zh x), .int .u64 (zl x)]] w fun e w' => e = .returned (.agg #[.int .u64 (zh (-1 - x)), .int .u64 (zl (-1 - x))]) ∧ Below w.heap.size w w' := by
  obtain ⟨f1, f2⟩ := zh_not x
  generalize zh (-1 - x) = a at *
  generalize zl (-1 - x) = b at *
  generalize zh x = c at *
  generalize zl x = d at *
  go_enter Tryd.func93, Tryd.ntmps93
  refine wp_shut ?_
  go_wp2
  refine shut_ret (v := .agg #[.int .u64 a, .int .u64 b]) (by simp [results, Tryd.results93, go_sem]) rfl ⟨rfl, ?_⟩
  go_grown
theorem dfl_up (x : Int) (d : Nat) (hd : 0 < d) (b : in128 x) (h : x < 0) : ∃ m q r : Nat, -1 - x = (m : Int) ∧ m < 340282366920938463463374607431768211456 ∧ m / d = q ∧ m % d = r ∧ r < d ∧ -1 - (q : Int) = x / d ∧ ((d - 1 - r : Nat) : Int) = x % d := by
  have e : -1 - x = ((-1 - x).toNat : Int) := by omega
  refine ⟨(-1 - x).toNat, _, _, e, by unfold in128 at b; omega, rfl, rfl, Nat.mod_lt _ hd, ?_⟩
  have h1 := Nat.div_add_mod (-1 - x).toNat d
  have h2 := Nat.mod_lt (-1 - x).toNat hd
  generalize (-1 - x).toNat = m at *
  generalize hq : m / d = q at *
  generalize hr : m % d = r at *
  have h3 : x = (-1 - (q : Int)) * d + ((d - 1 - r : Nat) : Int) := by
    have h4 : ((d * q + r : Nat) : Int) = (m : Int) := by rw [h1]
    rw [Int.natCast_add, Int.natCast_mul] at h4
    have h5 : (-1 - (q : Int)) * d = -(d : Int) - (d : Int) * q := by rw [Int.sub_mul, Int.mul_comm (q : Int)]; omega
    rw [h5]
    generalize (d : Int) * q = k at *
    omega
  have hb : (0 : Int) < (d : Int) := by omega
  have h6 : 0 ≤ ((d - 1 - r : Nat) : Int) ∧ ((d - 1 - r : Nat) : Int) < (d : Int) := by omega
  constructor
  · rw [h3, Int.add_comm, Int.add_mul_ediv_right _ _ (by omega), Int.ediv_eq_zero_of_lt h6.1 h6.2, Int.zero_add]
  · rw [h3, Int.add_comm, Int.add_mul_emod_self_right, Int.emod_eq_of_lt h6.1 h6.2]
end Go.Proofs.YtaoljjhhbmblhaaDoor
namespace Go.Proofs.YtaoljjhhbmblhaaDoor
set_option linter.unusedVariables false
set_option linter.unusedSimpArgs false
open Go.ChangeShapes Go.WideShapes Go.ChangeAt Go.RowKit
set_option maxHeartbeats 1600000 in
set_option maxRecDepth 100000 in
theorem dFloor_any (x : Int) (d : Nat) (b : in128 x) (hu : U d) (hd : 0 < d) (w : World) :
    Calls Tryd.prog 85 #[.agg #[.int .u64 (zh x), .int .u64 (zl x)], .int .u64 d] w fun e w' => e = .returned (.tuple #[.agg #[.int .u64 (zh (x / d)), .int .u64 (zl (x / d))], .int .u64 (x % d)]) ∧ Below w.heap.size w w' := by
  have X1 := zSigned_any x 0 b (by unfold in128; omega)
  rw [zh_zero, zl_zero] at X1
  by_cases h : x < 0
  · have c1 : cmpZ x 0 = -1 := by unfold cmpZ; rw [if_neg (by omega), if_pos h]
    obtain ⟨m, q, r, e1, e2, e3, e4, e5, e6, e7⟩ := dfl_up x d hd b h
    have X2 := over_any x
    have X3 := zDiv_any m d e2 hu hd
    have X4 := over_any (q : Int)
    rw [e1] at X2
    rw [e3, e4] at X3
    rw [e6] at X4
    rw [c1] at X1
    rw [← e7]
    have g1 : IntKind.u64.wrap ((d : Int) - 1) = ((d - 1 : Nat) : Int) := by rw [IntKind.wrap_u64]; unfold U at hu; omega
    have g2 : IntKind.u64.wrap (((d - 1 : Nat) : Int) - (r : Int)) = ((d - 1 - r : Nat) : Int) := by rw [IntKind.wrap_u64]; unfold U at hu; omega
    have H1 := Lib.hid X1
    have H2 := Lib.hid X2
    have H3 := Lib.hid X3
    have H4 := Lib.hid X4
    clear X1 X2 X3 X4 c1 e1 e2 e3 e4 e5 e6 e7 b hu hd h
    generalize x / (d : Int) = Q at *
    generalize d - 1 - r = R at *
    generalize d - 1 = d1 at *
    go_enter Tryd.func85, Tryd.ntmps85
    refine wp_shut ?_
    go_wp2_with fail
    
    refine (H1.out _).mono ?_
    rintro e V1 ⟨rfl, hb1⟩
    have B1 := Lib.hid ((((Below.refl w.heap.size w).alloc (Nat.le_refl _) _).alloc (by simp <;> omega) _).trans (hb1.mono (by first | assumption | (simp <;> omega) | (simp; done))))
    have A1 := Lib.hid (row_call hb1 (row_alloc (heap_alloc_new _ _) _))
    have Z1 := Lib.hid (row_at (k' := w.heap.size + 1) (by simp) (row_call hb1 (heap_alloc_new _ _)))
    clear hb1
    have A1_0 : V1.cell? ⟨w.heap.size, 0, none⟩ = some (.int .u64 (zh x)) := cell_of_row _ _ _ _ _ _ A1.out
    have A1_1 : V1.cell? ⟨w.heap.size, 1, none⟩ = some (.int .u64 (zl x)) := cell_of_row _ _ _ _ _ _ A1.out
    have Z1_0 : V1.cell? ⟨w.heap.size + 1, 0, none⟩ = some (.int .u64 0) := cell_of_row _ _ _ _ _ _ Z1.out
    have Z1_1 : V1.cell? ⟨w.heap.size + 1, 1, none⟩ = some (.int .u64 0) := cell_of_row _ _ _ _ _ _ Z1.out
    have Z1_f0 : V1.frozen? ⟨w.heap.size + 1, 0, none⟩ = false := by simp [World.frozen?, Z1.out]
    have Z1_f1 : V1.frozen? ⟨w.heap.size + 1, 1, none⟩ = false := by simp [World.frozen?, Z1.out]
    have zA1 := lt_of_heap A1.out
    have zZ1 := lt_of_heap Z1.out
    go_simp
    go_wp2_with fail
    refine (H2.out _).mono ?_
    rintro e V2 ⟨rfl, hb2⟩
    clear A1_0 A1_1 zA1 Z1_0 Z1_1 Z1_f0 Z1_f1 zZ1
    have B2 : Hid (Below w.heap.size w V2) := by first | exact Lib.hid ((B1.out).trans (hb2.mono (by have := B1.out.size; first | assumption | (simp <;> omega) | (simp; done)))) | exact Lib.hid (((B1.out).alloc (B1.out.size) _).trans (hb2.mono (by have := B1.out.size; first | assumption | (simp <;> omega) | (simp; done)))) | exact Lib.hid ((((B1.out).alloc (B1.out.size) _).alloc (by have := B1.out.size; simp <;> omega) _).trans (hb2.mono (by have := B1.out.size; first | assumption | (simp <;> omega) | (simp; done)))) | exact Lib.hid (((((B1.out).alloc (B1.out.size) _).alloc (by have := B1.out.size; simp <;> omega) _).alloc (by have := B1.out.size; simp <;> omega) _).trans (hb2.mono (by have := B1.out.size; first | assumption | (simp <;> omega) | (simp; done))))
    first | replace A1 := Lib.hid (row_call hb2 A1.out) | replace A1 := Lib.hid (row_call hb2 (row_alloc A1.out _)) | replace A1 := Lib.hid (row_call hb2 (row_alloc (row_alloc A1.out _) _)) | replace A1 := Lib.hid (row_call hb2 (row_alloc (row_alloc (row_alloc A1.out _) _) _))
    first | replace Z1 := Lib.hid (row_call hb2 Z1.out) | replace Z1 := Lib.hid (row_call hb2 (row_alloc Z1.out _)) | replace Z1 := Lib.hid (row_call hb2 (row_alloc (row_alloc Z1.out _) _)) | replace Z1 := Lib.hid (row_call hb2 (row_alloc (row_alloc (row_alloc Z1.out _) _) _))
    clear hb2
    have A1_0 : V2.cell? ⟨w.heap.size, 0, none⟩ = some (.int .u64 (zh x)) := cell_of_row _ _ _ _ _ _ A1.out
    have A1_1 : V2.cell? ⟨w.heap.size, 1, none⟩ = some (.int .u64 (zl x)) := cell_of_row _ _ _ _ _ _ A1.out
    have Z1_0 : V2.cell? ⟨w.heap.size + 1, 0, none⟩ = some (.int .u64 0) := cell_of_row _ _ _ _ _ _ Z1.out
    have Z1_1 : V2.cell? ⟨w.heap.size + 1, 1, none⟩ = some (.int .u64 0) := cell_of_row _ _ _ _ _ _ Z1.out
    have Z1_f0 : V2.frozen? ⟨w.heap.size + 1, 0, none⟩ = false := by simp [World.frozen?, Z1.out]
    have Z1_f1 : V2.frozen? ⟨w.heap.size + 1, 1, none⟩ = false := by simp [World.frozen?, Z1.out]
    have zA1 := lt_of_heap A1.out
    have zZ1 := lt_of_heap Z1.out
    go_simp
    go_wp2_with fail
    refine (H3.out _).mono ?_
    rintro e V3 ⟨rfl, hb3⟩
    clear A1_0 A1_1 zA1 Z1_0 Z1_1 Z1_f0 Z1_f1 zZ1
    have B3 : Hid (Below w.heap.size w V3) := by first | exact Lib.hid ((B2.out).trans (hb3.mono (by have := B2.out.size; first | assumption | (simp <;> omega) | (simp; done)))) | exact Lib.hid (((B2.out).alloc (B2.out.size) _).trans (hb3.mono (by have := B2.out.size; first | assumption | (simp <;> omega) | (simp; done)))) | exact Lib.hid ((((B2.out).alloc (B2.out.size) _).alloc (by have := B2.out.size; simp <;> omega) _).trans (hb3.mono (by have := B2.out.size; first | assumption | (simp <;> omega) | (simp; done)))) | exact Lib.hid (((((B2.out).alloc (B2.out.size) _).alloc (by have := B2.out.size; simp <;> omega) _).alloc (by have := B2.out.size; simp <;> omega) _).trans (hb3.mono (by have := B2.out.size; first | assumption | (simp <;> omega) | (simp; done))))
    first | replace A1 := Lib.hid (row_call hb3 A1.out) | replace A1 := Lib.hid (row_call hb3 (row_alloc A1.out _)) | replace A1 := Lib.hid (row_call hb3 (row_alloc (row_alloc A1.out _) _)) | replace A1 := Lib.hid (row_call hb3 (row_alloc (row_alloc (row_alloc A1.out _) _) _))
    first | replace Z1 := Lib.hid (row_call hb3 Z1.out) | replace Z1 := Lib.hid (row_call hb3 (row_alloc Z1.out _)) | replace Z1 := Lib.hid (row_call hb3 (row_alloc (row_alloc Z1.out _) _)) | replace Z1 := Lib.hid (row_call hb3 (row_alloc (row_alloc (row_alloc Z1.out _) _) _))
    clear hb3
    have A1_0 : V3.cell? ⟨w.heap.size, 0, none⟩ = some (.int .u64 (zh x)) := cell_of_row _ _ _ _ _ _ A1.out
    have A1_1 : V3.cell? ⟨w.heap.size, 1, none⟩ = some (.int .u64 (zl x)) := cell_of_row _ _ _ _ _ _ A1.out
    have Z1_0 : V3.cell? ⟨w.heap.size + 1, 0, none⟩ = some (.int .u64 0) := cell_of_row _ _ _ _ _ _ Z1.out
    have Z1_1 : V3.cell? ⟨w.heap.size + 1, 1, none⟩ = some (.int .u64 0) := cell_of_row _ _ _ _ _ _ Z1.out
    have Z1_f0 : V3.frozen? ⟨w.heap.size + 1, 0, none⟩ = false := by simp [World.frozen?, Z1.out]
    have Z1_f1 : V3.frozen? ⟨w.heap.size + 1, 1, none⟩ = false := by simp [World.frozen?, Z1.out]
    have zA1 := lt_of_heap A1.out
    have zZ1 := lt_of_heap Z1.out
    go_simp
    go_wp2_with fail
    refine (H4.out _).mono ?_
    rintro e V4 ⟨rfl, hb4⟩
    clear A1_0 A1_1 zA1 Z1_0 Z1_1 Z1_f0 Z1_f1 zZ1
    have nA1Q1 := Lib.hid (lt_of_heap A1.out)
    have nZ1Q1 := Lib.hid (lt_of_heap Z1.out)
    have B4 := Lib.hid (((B3.out).alloc (B3.out.size) _).trans (hb4.mono (by have := B3.out.size; first | assumption | (simp <;> omega) | (simp; done))))
    replace A1 := Lib.hid (row_call hb4 (row_alloc A1.out _))
    replace Z1 := Lib.hid (row_call hb4 (row_alloc Z1.out _))
    have Q1 := Lib.hid (row_call hb4 (heap_alloc_new _ _))
    clear hb4
    have A1_0 : V4.cell? ⟨w.heap.size, 0, none⟩ = some (.int .u64 (zh x)) := cell_of_row _ _ _ _ _ _ A1.out
    have A1_1 : V4.cell? ⟨w.heap.size, 1, none⟩ = some (.int .u64 (zl x)) := cell_of_row _ _ _ _ _ _ A1.out
    have Z1_0 : V4.cell? ⟨w.heap.size + 1, 0, none⟩ = some (.int .u64 0) := cell_of_row _ _ _ _ _ _ Z1.out
    have Z1_1 : V4.cell? ⟨w.heap.size + 1, 1, none⟩ = some (.int .u64 0) := cell_of_row _ _ _ _ _ _ Z1.out
    have Z1_f0 : V4.frozen? ⟨w.heap.size + 1, 0, none⟩ = false := by simp [World.frozen?, Z1.out]
    have Z1_f1 : V4.frozen? ⟨w.heap.size + 1, 1, none⟩ = false := by simp [World.frozen?, Z1.out]
    have Q1_0 : V4.cell? ⟨V3.heap.size, 0, none⟩ = some (.int .u64 (zh q)) := cell_of_row _ _ _ _ _ _ Q1.out
    have Q1_1 : V4.cell? ⟨V3.heap.size, 1, none⟩ = some (.int .u64 (zl q)) := cell_of_row _ _ _ _ _ _ Q1.out
    have zA1 := lt_of_heap A1.out
    have zZ1 := lt_of_heap Z1.out
    have zQ1 := lt_of_heap Q1.out
    go_simp
    go_wp2
    refine shut_ret (v := .tuple #[.agg #[.int .u64 (zh Q), .int .u64 (zl Q)], .int .u64 R]) (by simp [results, Tryd.results85, go_sem, zZ1, Z1_0, Z1_1]) rfl ⟨rfl, ?_⟩
    exact keep2 B4.out (by omega) _ _
  · have c1 : ¬ cmpZ x 0 < 0 := by unfold cmpZ; split <;> (try split) <;> omega
    have e0 : (x.toNat : Int) = x := by omega
    have X3 := zDiv_any x.toNat d (by unfold in128 at b; omega) hu hd
    have e3 : ((x.toNat / d : Nat) : Int) = x / d := by rw [Int.natCast_ediv, e0]
    have e4 : ((x.toNat % d : Nat) : Int) = x % d := by rw [Int.natCast_emod, e0]
    rw [e0, e3, e4] at X3
    have H1 := Lib.hid X1
    have H3 := Lib.hid X3
    clear X1 X3 e0 e3 e4 b hu hd h
    generalize x / (d : Int) = Q at *
    generalize x % (d : Int) = R at *
    generalize cmpZ x 0 = c at *
    go_enter Tryd.func85, Tryd.ntmps85
    refine wp_shut ?_
    go_wp2_with fail
    
    refine (H1.out _).mono ?_
    rintro e V1 ⟨rfl, hb1⟩
    have B1 := Lib.hid ((((Below.refl w.heap.size w).alloc (Nat.le_refl _) _).alloc (by simp <;> omega) _).trans (hb1.mono (by first | assumption | (simp <;> omega) | (simp; done))))
    have A1 := Lib.hid (row_call hb1 (row_alloc (heap_alloc_new _ _) _))
    have Z1 := Lib.hid (row_at (k' := w.heap.size + 1) (by simp) (row_call hb1 (heap_alloc_new _ _)))
    clear hb1
    have A1_0 : V1.cell? ⟨w.heap.size, 0, none⟩ = some (.int .u64 (zh x)) := cell_of_row _ _ _ _ _ _ A1.out
    have A1_1 : V1.cell? ⟨w.heap.size, 1, none⟩ = some (.int .u64 (zl x)) := cell_of_row _ _ _ _ _ _ A1.out
    have Z1_0 : V1.cell? ⟨w.heap.size + 1, 0, none⟩ = some (.int .u64 0) := cell_of_row _ _ _ _ _ _ Z1.out
    have Z1_1 : V1.cell? ⟨w.heap.size + 1, 1, none⟩ = some (.int .u64 0) := cell_of_row _ _ _ _ _ _ Z1.out
    have Z1_f0 : V1.frozen? ⟨w.heap.size + 1, 0, none⟩ = false := by simp [World.frozen?, Z1.out]
    have Z1_f1 : V1.frozen? ⟨w.heap.size + 1, 1, none⟩ = false := by simp [World.frozen?, Z1.out]
    have zA1 := lt_of_heap A1.out
    have zZ1 := lt_of_heap Z1.out
    go_simp
    go_wp2_with fail
    refine (H3.out _).mono ?_
    rintro e V2 ⟨rfl, hb2⟩
    clear A1_0 A1_1 zA1 Z1_0 Z1_1 Z1_f0 Z1_f1 zZ1
    have B2 : Hid (Below w.heap.size w V2) := by first | exact Lib.hid ((B1.out).trans (hb2.mono (by have := B1.out.size; first | assumption | (simp <;> omega) | (simp; done)))) | exact Lib.hid (((B1.out).alloc (B1.out.size) _).trans (hb2.mono (by have := B1.out.size; first | assumption | (simp <;> omega) | (simp; done)))) | exact Lib.hid ((((B1.out).alloc (B1.out.size) _).alloc (by have := B1.out.size; simp <;> omega) _).trans (hb2.mono (by have := B1.out.size; first | assumption | (simp <;> omega) | (simp; done)))) | exact Lib.hid (((((B1.out).alloc (B1.out.size) _).alloc (by have := B1.out.size; simp <;> omega) _).alloc (by have := B1.out.size; simp <;> omega) _).trans (hb2.mono (by have := B1.out.size; first | assumption | (simp <;> omega) | (simp; done))))
    first | replace A1 := Lib.hid (row_call hb2 A1.out) | replace A1 := Lib.hid (row_call hb2 (row_alloc A1.out _)) | replace A1 := Lib.hid (row_call hb2 (row_alloc (row_alloc A1.out _) _)) | replace A1 := Lib.hid (row_call hb2 (row_alloc (row_alloc (row_alloc A1.out _) _) _))
    first | replace Z1 := Lib.hid (row_call hb2 Z1.out) | replace Z1 := Lib.hid (row_call hb2 (row_alloc Z1.out _)) | replace Z1 := Lib.hid (row_call hb2 (row_alloc (row_alloc Z1.out _) _)) | replace Z1 := Lib.hid (row_call hb2 (row_alloc (row_alloc (row_alloc Z1.out _) _) _))
    clear hb2
    have A1_0 : V2.cell? ⟨w.heap.size, 0, none⟩ = some (.int .u64 (zh x)) := cell_of_row _ _ _ _ _ _ A1.out
    have A1_1 : V2.cell? ⟨w.heap.size, 1, none⟩ = some (.int .u64 (zl x)) := cell_of_row _ _ _ _ _ _ A1.out
    have Z1_0 : V2.cell? ⟨w.heap.size + 1, 0, none⟩ = some (.int .u64 0) := cell_of_row _ _ _ _ _ _ Z1.out
    have Z1_1 : V2.cell? ⟨w.heap.size + 1, 1, none⟩ = some (.int .u64 0) := cell_of_row _ _ _ _ _ _ Z1.out
    have Z1_f0 : V2.frozen? ⟨w.heap.size + 1, 0, none⟩ = false := by simp [World.frozen?, Z1.out]
    have Z1_f1 : V2.frozen? ⟨w.heap.size + 1, 1, none⟩ = false := by simp [World.frozen?, Z1.out]
    have zA1 := lt_of_heap A1.out
    have zZ1 := lt_of_heap Z1.out
    go_simp
    go_wp2
    refine shut_ret (v := .tuple #[.agg #[.int .u64 (zh Q), .int .u64 (zl Q)], .int .u64 R]) (by simp [results, Tryd.results85, go_sem, zZ1, Z1_0, Z1_1]) rfl ⟨rfl, ?_⟩
    exact (keep2 B2.out (by omega) _ _).alloc (by have := B2.out.size; simp; omega) _
set_option maxHeartbeats 3200000 in
set_option maxRecDepth 100000 in
theorem dCmp_any (s n d m : Int) (w : World) :
    Calls Tryd.prog 75 #[.agg #[.int .i64 s, .int .i64 n], .agg #[.int .i64 d, .int .i64 m]] w fun e w' => e = .returned (.int .i64 (ord2 s n d m)) ∧ Below w.heap.size w w' := by
  have H1 := Lib.hid (ccmp_any s d)
  have H2 := Lib.hid (ccmp_any n m)
  have X3 := or_any (ordI s d) (ordI n m)
  rw [ord_or] at X3
  have H3 := Lib.hid X3
  clear X3
  generalize ord2 s n d m = E at *
  generalize ordI s d = c1 at *
  generalize ordI n m = c2 at *
  go_enter Tryd.func75, Tryd.ntmps75
  go_wp2_with fail
  
  obtain ⟨W0, hW0⟩ : ∃ W0, W0 = ((w.alloc (Obj.cells #[Value.int .i64 s, Value.int .i64 n] 42)).alloc (Obj.cells #[Value.int .i64 d, Value.int .i64 m] 42)) := ⟨_, rfl⟩
  have A1 := Lib.hid (row_at (k' := w.heap.size) (by simp) (row_by hW0 (row_alloc (heap_alloc_new _ _) _)))
  have D1 := Lib.hid (row_at (k' := w.heap.size + 1) (by simp) (row_by hW0 (heap_alloc_new _ _)))
  have HB0 := Lib.hid (below_by hW0 (((Below.refl w.heap.size w).alloc (by simp <;> omega) _).alloc (by simp <;> omega) _))
  have HW0 := Lib.hid hW0
  clear hW0
  have A1_0 : W0.cell? ⟨w.heap.size, 0, none⟩ = some (.int .i64 s) := cell_of_row _ _ _ _ _ _ A1.out
  have A1_1 : W0.cell? ⟨w.heap.size, 1, none⟩ = some (.int .i64 n) := cell_of_row _ _ _ _ _ _ A1.out
  have zA1 := lt_of_heap A1.out
  have D1_0 : W0.cell? ⟨w.heap.size + 1, 0, none⟩ = some (.int .i64 d) := cell_of_row _ _ _ _ _ _ D1.out
  have D1_1 : W0.cell? ⟨w.heap.size + 1, 1, none⟩ = some (.int .i64 m) := cell_of_row _ _ _ _ _ _ D1.out
  have zD1 := lt_of_heap D1.out
  try rw [← HW0.out]
  go_cut [4] (fun s4 wx => s4 = .int .i64 E ∧ Below W0.heap.size W0 wx)
  case first =>
    go_region_held3 (fun w' => Below W0.heap.size W0 w' ∧ w'.cell? ⟨w.heap.size, 0, none⟩ = some (.int .i64 s) ∧ w'.cell? ⟨w.heap.size, 1, none⟩ = some (.int .i64 n) ∧ w'.cell? ⟨w.heap.size + 1, 0, none⟩ = some (.int .i64 d) ∧ w'.cell? ⟨w.heap.size + 1, 1, none⟩ = some (.int .i64 m))
    (first
      | ((try go_split_ands); refine ⟨(Below.refl _ _).drew, ?_, ?_, ?_, ?_⟩ <;> first | assumption | (rw [World.cell?_drew]; assumption))
      | ((try go_split_ands); refine ⟨keepS (W0 := W0) ?_ hb1, cellS (W0 := W0) ?_ hb1 ?_ ?_, cellS (W0 := W0) ?_ hb1 ?_ ?_, cellS (W0 := W0) ?_ hb1 ?_ ?_, cellS (W0 := W0) ?_ hb1 ?_ ?_⟩ <;> first | assumption | omega)
      | ((try go_split_ands); refine ⟨keepA (W0 := W0) ?_ _, cellA (W0 := W0) ?_ _ ?_ ?_, cellA (W0 := W0) ?_ _ ?_ ?_, cellA (W0 := W0) ?_ _ ?_ ?_, cellA (W0 := W0) ?_ _ ?_ ?_⟩ <;> first | assumption | omega)
      | ((try go_split_ands); refine ⟨keepAd (W0 := W0) ?_ _, cellAd (W0 := W0) ?_ _ ?_ ?_, cellAd (W0 := W0) ?_ _ ?_ ?_, cellAd (W0 := W0) ?_ _ ?_ ?_, cellAd (W0 := W0) ?_ _ ?_ ?_⟩ <;> first | assumption | omega | exact Below.refl _ _)
      | ((try go_split_ands); (with_reducible refine ⟨keep3 (W0 := W0) ?_ ?_ _ _ _, cell3 (W0 := W0) ?_ _ _ _ ?_ ?_, cell3 (W0 := W0) ?_ _ _ _ ?_ ?_, cell3 (W0 := W0) ?_ _ _ _ ?_ ?_, cell3 (W0 := W0) ?_ _ _ _ ?_ ?_⟩) <;> first | assumption | omega | exact Nat.le_refl _)
      | ((try go_split_ands); refine ⟨keep2 (W0 := W0) ?_ ?_ _ _, cell2 (W0 := W0) ?_ _ _ ?_ ?_, cell2 (W0 := W0) ?_ _ _ ?_ ?_, cell2 (W0 := W0) ?_ _ _ ?_ ?_, cell2 (W0 := W0) ?_ _ _ ?_ ?_⟩ <;> first | assumption | omega | exact Nat.le_refl _)
      | ((try go_split_ands); refine ⟨keepZ (W0 := W0) ?_ ?_ _, cellZ (W0 := W0) ?_ _ ?_ ?_, cellZ (W0 := W0) ?_ _ ?_ ?_, cellZ (W0 := W0) ?_ _ ?_ ?_, cellZ (W0 := W0) ?_ _ ?_ ?_⟩ <;> first | assumption | omega | exact Nat.le_refl _ | exact ⟨_, by assumption⟩))
    (first | (go_at_call 43; (with_reducible refine (H1.out _).mono ?_); rintro e w1 ⟨rfl, hb1⟩; (try go_split_ands); have hge : W0.heap.size ≤ w1.heap.size := (by first | (refine (keepS (W0 := W0) ?_ hb1).size; assumption) | exact (hb1.size : W0.heap.size ≤ w1.heap.size)); (try have hrow := row_call hb1 hrow); (try have hrow := row_new hb1); (try have hrow := row_newd hb1); have hl1 := lt_below hb1; obtain ⟨hc1, hf1⟩ := bcell hb1; (try (have hrc := row_cellA hrow; clear hc1 hf1)); (try have hrf := row_frozA hrow)) | (go_at_call 43; (with_reducible refine (H2.out _).mono ?_); rintro e w1 ⟨rfl, hb1⟩; (try go_split_ands); have hge : W0.heap.size ≤ w1.heap.size := (by first | (refine (keepS (W0 := W0) ?_ hb1).size; assumption) | exact (hb1.size : W0.heap.size ≤ w1.heap.size)); (try have hrow := row_call hb1 hrow); (try have hrow := row_new hb1); (try have hrow := row_newd hb1); have hl1 := lt_below hb1; obtain ⟨hc1, hf1⟩ := bcell hb1; (try (have hrc := row_cellA hrow; clear hc1 hf1)); (try have hrf := row_frozA hrow)) | (go_at_call 41; refine (H3.out _ _ (by simp [go_sem]) (by simp [go_sem])).mono ?_; rintro e w1 ⟨rfl, hb1⟩; (try go_split_ands); have hge : W0.heap.size ≤ w1.heap.size := (by first | (refine (keepS (W0 := W0) ?_ hb1).size; assumption) | exact (hb1.size : W0.heap.size ≤ w1.heap.size)); (try have hrow := row_call hb1 hrow); (try have hrow := row_new hb1); (try have hrow := row_newd hb1); have hl1 := lt_below hb1; obtain ⟨hc1, hf1⟩ := bcell hb1; (try (have hrc := row_cellA hrow; clear hc1 hf1)); (try have hrf := row_frozA hrow)))
    all_goals (try go_split_ands)
    all_goals (go_wp2_with fail; go_meet; refine ⟨rfl, ?_⟩)
    all_goals first | (with_reducible assumption) | (with_reducible exact heap_alloc_new _ _) | (with_reducible exact row_set3 (by assumption) _ _ _) | assumption | exact heap_alloc_new _ _ | exact row_set (by assumption) _ _
  case rest =>
    obtain ⟨rfl, hB⟩ := hcut
    obtain ⟨V1, rfl⟩ : ∃ V, V = wc := ⟨_, rfl⟩
    clear A1_0 A1_1 zA1 D1_0 D1_1 zD1
    replace A1 := Lib.hid (row_call hB A1.out)
    replace D1 := Lib.hid (row_call hB D1.out)
    have B1 := Lib.hid (HB0.out.trans (hB.mono HB0.out.size))
    clear hB
    have A1_0 : V1.cell? ⟨w.heap.size, 0, none⟩ = some (.int .i64 s) := cell_of_row _ _ _ _ _ _ A1.out
    have A1_1 : V1.cell? ⟨w.heap.size, 1, none⟩ = some (.int .i64 n) := cell_of_row _ _ _ _ _ _ A1.out
    have zA1 := lt_of_heap A1.out
    have D1_0 : V1.cell? ⟨w.heap.size + 1, 0, none⟩ = some (.int .i64 d) := cell_of_row _ _ _ _ _ _ D1.out
    have D1_1 : V1.cell? ⟨w.heap.size + 1, 1, none⟩ = some (.int .i64 m) := cell_of_row _ _ _ _ _ _ D1.out
    have zD1 := lt_of_heap D1.out
    go_wp2
    go_ret
    exact ⟨rfl, B1.out⟩
theorem ord2_lo (s n : Int) (h : 0 ≤ n) : ord2 s n (-1099511627776) 0 < 0 ↔ s < -1099511627776 := by
  unfold ord2 ordI; repeat' split
  all_goals omega
theorem ord2_hi (s n : Int) (h : 0 ≤ n) : 0 < ord2 s n 1099511627776 0 ↔ (1099511627776 < s ∨ (s = 1099511627776 ∧ 0 < n)) := by
  unfold ord2 ordI; repeat' split
  all_goals omega
theorem belowC (w : World) (o o2 o3 : Obj) : Below w.heap.size w (((w.alloc o).alloc o2).alloc o3) := (((Below.refl _ _).alloc (Nat.le_refl _) _).alloc (by simp) _).alloc (by simp; omega) _
set_option maxHeartbeats 3200000 in
set_option maxRecDepth 100000 in
theorem dCheck_any (s n : Int) (w : World) : Calls Tryd.prog 57 #[.agg #[.int .i64 s, .int .i64 n]] w fun e w' => e = .returned (.int .i64 (ckD s n)) ∧ Below w.heap.size w w' := by
  by_cases h0 : n < 0
  · have E := Lib.hid (ckD_wm (s := s) (wmB_low h0))
    go_enter Tryd.func57, Tryd.ntmps57
    go_wp2
    go_ret
    exact ⟨by rw [E.out]; rfl, belowC _ _ _ _⟩
  · by_cases h1 : (1000000000 : Int) ≤ n
    · have E := Lib.hid (ckD_wm (s := s) (wmB_high h1))
      go_enter Tryd.func57, Tryd.ntmps57
      go_wp2
      go_ret
      exact ⟨by rw [E.out]; rfl, belowC _ _ _ _⟩
    · have hw := wmB_true (n := n) (by omega) (by omega)
      have L1 := ord2_lo s n (by omega)
      have L2 := ord2_hi s n (by omega)
      have H1 := Lib.hid (dCmp_any s n (-1099511627776) 0)
      have H2 := Lib.hid (dCmp_any s n 1099511627776 0)
      by_cases h2 : s < -1099511627776
      · have E := Lib.hid (ckD_out hw (Or.inl h2))
        have c1 := L1.mpr h2
        clear L1 L2 hw
        generalize ord2 s n (-1099511627776) 0 = C at *
        go_enter Tryd.func57, Tryd.ntmps57
        go_wp2_with fail
        
        refine (H1.out _).mono ?_
        rintro e V1 ⟨rfl, hb1⟩
        have B1 := Lib.hid (((((Below.refl w.heap.size w).alloc (Nat.le_refl _) _).alloc (by simp <;> omega) _).alloc (by simp <;> omega) _).trans (hb1.mono (by first | assumption | (simp <;> omega) | (simp; done))))
        have A1 := Lib.hid (row_call hb1 (row_alloc (row_alloc (heap_alloc_new _ _) _) _))
        have L1 := Lib.hid (row_at (k' := w.heap.size + 1) (by simp) (row_call hb1 (row_alloc (heap_alloc_new _ _) _)))
        have M1 := Lib.hid (row_at (k' := w.heap.size + 1 + 1) (by simp) (row_call hb1 (heap_alloc_new _ _)))
        clear hb1
        have A1_0 : V1.cell? ⟨w.heap.size, 0, none⟩ = some (.int .i64 s) := cell_of_row _ _ _ _ _ _ A1.out
        have A1_1 : V1.cell? ⟨w.heap.size, 1, none⟩ = some (.int .i64 n) := cell_of_row _ _ _ _ _ _ A1.out
        have L1_0 : V1.cell? ⟨w.heap.size + 1, 0, none⟩ = some (.int .i64 (-1099511627776)) := cell_of_row _ _ _ _ _ _ L1.out
        have L1_1 : V1.cell? ⟨w.heap.size + 1, 1, none⟩ = some (.int .i64 0) := cell_of_row _ _ _ _ _ _ L1.out
        have M1_0 : V1.cell? ⟨w.heap.size + 1 + 1, 0, none⟩ = some (.int .i64 1099511627776) := cell_of_row _ _ _ _ _ _ M1.out
        have M1_1 : V1.cell? ⟨w.heap.size + 1 + 1, 1, none⟩ = some (.int .i64 0) := cell_of_row _ _ _ _ _ _ M1.out
        have zA1 := lt_of_heap A1.out
        have zL1 := lt_of_heap L1.out
        have zM1 := lt_of_heap M1.out
        go_simp
        go_wp2
        go_ret
        exact ⟨by rw [E.out]; rfl, B1.out⟩
      · have c1 : ¬ ord2 s n (-1099511627776) 0 < 0 := fun h => h2 (L1.mp h)
        by_cases h3 : 1099511627776 < s ∨ (s = 1099511627776 ∧ 0 < n)
        · have E := Lib.hid (ckD_out hw (Or.inr h3))
          have c2 := L2.mpr h3
          clear L1 L2 hw h3
          generalize ord2 s n (-1099511627776) 0 = C at *
          generalize ord2 s n 1099511627776 0 = D at *
          go_enter Tryd.func57, Tryd.ntmps57
          go_wp2_with fail
          
          refine (H1.out _).mono ?_
          rintro e V1 ⟨rfl, hb1⟩
          have B1 := Lib.hid (((((Below.refl w.heap.size w).alloc (Nat.le_refl _) _).alloc (by simp <;> omega) _).alloc (by simp <;> omega) _).trans (hb1.mono (by first | assumption | (simp <;> omega) | (simp; done))))
          have A1 := Lib.hid (row_call hb1 (row_alloc (row_alloc (heap_alloc_new _ _) _) _))
          have L1 := Lib.hid (row_at (k' := w.heap.size + 1) (by simp) (row_call hb1 (row_alloc (heap_alloc_new _ _) _)))
          have M1 := Lib.hid (row_at (k' := w.heap.size + 1 + 1) (by simp) (row_call hb1 (heap_alloc_new _ _)))
          clear hb1
          have A1_0 : V1.cell? ⟨w.heap.size, 0, none⟩ = some (.int .i64 s) := cell_of_row _ _ _ _ _ _ A1.out
          have A1_1 : V1.cell? ⟨w.heap.size, 1, none⟩ = some (.int .i64 n) := cell_of_row _ _ _ _ _ _ A1.out
          have L1_0 : V1.cell? ⟨w.heap.size + 1, 0, none⟩ = some (.int .i64 (-1099511627776)) := cell_of_row _ _ _ _ _ _ L1.out
          have L1_1 : V1.cell? ⟨w.heap.size + 1, 1, none⟩ = some (.int .i64 0) := cell_of_row _ _ _ _ _ _ L1.out
          have M1_0 : V1.cell? ⟨w.heap.size + 1 + 1, 0, none⟩ = some (.int .i64 1099511627776) := cell_of_row _ _ _ _ _ _ M1.out
          have M1_1 : V1.cell? ⟨w.heap.size + 1 + 1, 1, none⟩ = some (.int .i64 0) := cell_of_row _ _ _ _ _ _ M1.out
          have zA1 := lt_of_heap A1.out
          have zL1 := lt_of_heap L1.out
          have zM1 := lt_of_heap M1.out
          go_simp
          go_wp2_with fail
          refine (H2.out _).mono ?_
          rintro e V2 ⟨rfl, hb2⟩
          clear A1_0 A1_1 zA1 L1_0 L1_1 zL1 M1_0 M1_1 zM1
          have B2 : Hid (Below w.heap.size w V2) := by first | exact Lib.hid ((B1.out).trans (hb2.mono (by have := B1.out.size; first | assumption | (simp <;> omega) | (simp; done)))) | exact Lib.hid (((B1.out).alloc (B1.out.size) _).trans (hb2.mono (by have := B1.out.size; first | assumption | (simp <;> omega) | (simp; done)))) | exact Lib.hid ((((B1.out).alloc (B1.out.size) _).alloc (by have := B1.out.size; simp <;> omega) _).trans (hb2.mono (by have := B1.out.size; first | assumption | (simp <;> omega) | (simp; done)))) | exact Lib.hid (((((B1.out).alloc (B1.out.size) _).alloc (by have := B1.out.size; simp <;> omega) _).alloc (by have := B1.out.size; simp <;> omega) _).trans (hb2.mono (by have := B1.out.size; first | assumption | (simp <;> omega) | (simp; done))))
          first | replace A1 := Lib.hid (row_call hb2 A1.out) | replace A1 := Lib.hid (row_call hb2 (row_alloc A1.out _)) | replace A1 := Lib.hid (row_call hb2 (row_alloc (row_alloc A1.out _) _)) | replace A1 := Lib.hid (row_call hb2 (row_alloc (row_alloc (row_alloc A1.out _) _) _))
          first | replace L1 := Lib.hid (row_call hb2 L1.out) | replace L1 := Lib.hid (row_call hb2 (row_alloc L1.out _)) | replace L1 := Lib.hid (row_call hb2 (row_alloc (row_alloc L1.out _) _)) | replace L1 := Lib.hid (row_call hb2 (row_alloc (row_alloc (row_alloc L1.out _) _) _))
          first | replace M1 := Lib.hid (row_call hb2 M1.out) | replace M1 := Lib.hid (row_call hb2 (row_alloc M1.out _)) | replace M1 := Lib.hid (row_call hb2 (row_alloc (row_alloc M1.out _) _)) | replace M1 := Lib.hid (row_call hb2 (row_alloc (row_alloc (row_alloc M1.out _) _) _))
          clear hb2
          have A1_0 : V2.cell? ⟨w.heap.size, 0, none⟩ = some (.int .i64 s) := cell_of_row _ _ _ _ _ _ A1.out
          have A1_1 : V2.cell? ⟨w.heap.size, 1, none⟩ = some (.int .i64 n) := cell_of_row _ _ _ _ _ _ A1.out
          have L1_0 : V2.cell? ⟨w.heap.size + 1, 0, none⟩ = some (.int .i64 (-1099511627776)) := cell_of_row _ _ _ _ _ _ L1.out
          have L1_1 : V2.cell? ⟨w.heap.size + 1, 1, none⟩ = some (.int .i64 0) := cell_of_row _ _ _ _ _ _ L1.out
          have M1_0 : V2.cell? ⟨w.heap.size + 1 + 1, 0, none⟩ = some (.int .i64 1099511627776) := cell_of_row _ _ _ _ _ _ M1.out
          have M1_1 : V2.cell? ⟨w.heap.size + 1 + 1, 1, none⟩ = some (.int .i64 0) := cell_of_row _ _ _ _ _ _ M1.out
          have zA1 := lt_of_heap A1.out
          have zL1 := lt_of_heap L1.out
          have zM1 := lt_of_heap M1.out
          go_simp
          go_wp2
          go_ret
          exact ⟨by rw [E.out]; rfl, B2.out⟩
        · have E := Lib.hid (ckD_ok hw (by omega : ¬ (s < -1099511627776 ∨ 1099511627776 < s ∨ (s = 1099511627776 ∧ 0 < n))))
          have c2 : ¬ 0 < ord2 s n 1099511627776 0 := fun h => h3 (L2.mp h)
          clear L1 L2 hw h3
          generalize ord2 s n (-1099511627776) 0 = C at *
          generalize ord2 s n 1099511627776 0 = D at *
          go_enter Tryd.func57, Tryd.ntmps57
          go_wp2_with fail
          
          refine (H1.out _).mono ?_
          rintro e V1 ⟨rfl, hb1⟩
          have B1 := Lib.hid (((((Below.refl w.heap.size w).alloc (Nat.le_refl _) _).alloc (by simp <;> omega) _).alloc (by simp <;> omega) _).trans (hb1.mono (by first | assumption | (simp <;> omega) | (simp; done))))
          have A1 := Lib.hid (row_call hb1 (row_alloc (row_alloc (heap_alloc_new _ _) _) _))
          have L1 := Lib.hid (row_at (k' := w.heap.size + 1) (by simp) (row_call hb1 (row_alloc (heap_alloc_new _ _) _)))
          have M1 := Lib.hid (row_at (k' := w.heap.size + 1 + 1) (by simp) (row_call hb1 (heap_alloc_new _ _)))
          clear hb1
          have A1_0 : V1.cell? ⟨w.heap.size, 0, none⟩ = some (.int .i64 s) := cell_of_row _ _ _ _ _ _ A1.out
          have A1_1 : V1.cell? ⟨w.heap.size, 1, none⟩ = some (.int .i64 n) := cell_of_row _ _ _ _ _ _ A1.out
          have L1_0 : V1.cell? ⟨w.heap.size + 1, 0, none⟩ = some (.int .i64 (-1099511627776)) := cell_of_row _ _ _ _ _ _ L1.out
          have L1_1 : V1.cell? ⟨w.heap.size + 1, 1, none⟩ = some (.int .i64 0) := cell_of_row _ _ _ _ _ _ L1.out
          have M1_0 : V1.cell? ⟨w.heap.size + 1 + 1, 0, none⟩ = some (.int .i64 1099511627776) := cell_of_row _ _ _ _ _ _ M1.out
          have M1_1 : V1.cell? ⟨w.heap.size + 1 + 1, 1, none⟩ = some (.int .i64 0) := cell_of_row _ _ _ _ _ _ M1.out
          have zA1 := lt_of_heap A1.out
          have zL1 := lt_of_heap L1.out
          have zM1 := lt_of_heap M1.out
          go_simp
          go_wp2_with fail
          refine (H2.out _).mono ?_
          rintro e V2 ⟨rfl, hb2⟩
          clear A1_0 A1_1 zA1 L1_0 L1_1 zL1 M1_0 M1_1 zM1
          have B2 : Hid (Below w.heap.size w V2) := by first | exact Lib.hid ((B1.out).trans (hb2.mono (by have := B1.out.size; first | assumption | (simp <;> omega) | (simp; done)))) | exact Lib.hid (((B1.out).alloc (B1.out.size) _).trans (hb2.mono (by have := B1.out.size; first | assumption | (simp <;> omega) | (simp; done)))) | exact Lib.hid ((((B1.out).alloc (B1.out.size) _).alloc (by have := B1.out.size; simp <;> omega) _).trans (hb2.mono (by have := B1.out.size; first | assumption | (simp <;> omega) | (simp; done)))) | exact Lib.hid (((((B1.out).alloc (B1.out.size) _).alloc (by have := B1.out.size; simp <;> omega) _).alloc (by have := B1.out.size; simp <;> omega) _).trans (hb2.mono (by have := B1.out.size; first | assumption | (simp <;> omega) | (simp; done))))
          first | replace A1 := Lib.hid (row_call hb2 A1.out) | replace A1 := Lib.hid (row_call hb2 (row_alloc A1.out _)) | replace A1 := Lib.hid (row_call hb2 (row_alloc (row_alloc A1.out _) _)) | replace A1 := Lib.hid (row_call hb2 (row_alloc (row_alloc (row_alloc A1.out _) _) _))
          first | replace L1 := Lib.hid (row_call hb2 L1.out) | replace L1 := Lib.hid (row_call hb2 (row_alloc L1.out _)) | replace L1 := Lib.hid (row_call hb2 (row_alloc (row_alloc L1.out _) _)) | replace L1 := Lib.hid (row_call hb2 (row_alloc (row_alloc (row_alloc L1.out _) _) _))
          first | replace M1 := Lib.hid (row_call hb2 M1.out) | replace M1 := Lib.hid (row_call hb2 (row_alloc M1.out _)) | replace M1 := Lib.hid (row_call hb2 (row_alloc (row_alloc M1.out _) _)) | replace M1 := Lib.hid (row_call hb2 (row_alloc (row_alloc (row_alloc M1.out _) _) _))
          clear hb2
          have A1_0 : V2.cell? ⟨w.heap.size, 0, none⟩ = some (.int .i64 s) := cell_of_row _ _ _ _ _ _ A1.out
          have A1_1 : V2.cell? ⟨w.heap.size, 1, none⟩ = some (.int .i64 n) := cell_of_row _ _ _ _ _ _ A1.out
          have L1_0 : V2.cell? ⟨w.heap.size + 1, 0, none⟩ = some (.int .i64 (-1099511627776)) := cell_of_row _ _ _ _ _ _ L1.out
          have L1_1 : V2.cell? ⟨w.heap.size + 1, 1, none⟩ = some (.int .i64 0) := cell_of_row _ _ _ _ _ _ L1.out
          have M1_0 : V2.cell? ⟨w.heap.size + 1 + 1, 0, none⟩ = some (.int .i64 1099511627776) := cell_of_row _ _ _ _ _ _ M1.out
          have M1_1 : V2.cell? ⟨w.heap.size + 1 + 1, 1, none⟩ = some (.int .i64 0) := cell_of_row _ _ _ _ _ _ M1.out
          have zA1 := lt_of_heap A1.out
          have zL1 := lt_of_heap L1.out
          have zM1 := lt_of_heap M1.out
          go_simp
          go_wp2
          go_ret
          exact ⟨by rw [E.out]; rfl, B2.out⟩
end Go.Proofs.YtaoljjhhbmblhaaDoor
namespace Go.Proofs.YtaoljjhhbmblhaaDoor
set_option linter.unusedVariables false
set_option linter.unusedSimpArgs false
open Go.ChangeShapes Go.WideShapes Go.ChangeAt Go.RowKit
theorem duE_far {T : Int} (h : ¬ in64 (T / 1000000000)) : ¬ (-1099511627776000000000 ≤ T ∧ T ≤ 1099511627776000000000) := by unfold in64 at h; omega
set_option maxHeartbeats 1600000 in
set_option maxRecDepth 100000 in
theorem join_any (x y : Int) (bx : in128 x) (b : in128 y) (bs : in128 (x + y / 1000000000)) (w : World) :
    Calls Tryd.prog 64 #[.agg #[.int .u64 (zh x), .int .u64 (zl x)], .agg #[.int .u64 (zh y), .int .u64 (zl y)]] w fun e w' => e = .returned (.tuple #[.agg #[.int .i64 (duS (nanos x y)), .int .i64 (duN (nanos x y))], .int .i64 (duE (nanos x y))]) ∧ Below w.heap.size w w' := by
  have X1 := dFloor_any y 1000000000 b (by unfold U; omega) (by omega)
  rw [show ((1000000000 : Nat) : Int) = 1000000000 from rfl] at X1
  have X2 := zAdd_any x (y / 1000000000)
  have X3 := zInt_any _ bs
  have e1 : nanos x y / 1000000000 = x + y / 1000000000 := by unfold nanos; omega
  have e2 : nanos x y % 1000000000 = y % 1000000000 := by unfold nanos; omega
  have r0 : 0 ≤ y % 1000000000 := by omega
  have r1 : y % 1000000000 < 1000000000 := by omega
  have f1 : wrap64 (y % 1000000000) = y % 1000000000 := by unfold wrap64; omega
  have ck := dd_ck (nanos x y)
  rw [e1, e2] at ck
  have X4 := dCheck_any (x + y / 1000000000) (y % 1000000000)
  rw [ck] at X4
  have H1 := Lib.hid X1
  have H2 := Lib.hid X2
  by_cases hq : in64 (x + y / 1000000000)
  · rw [iV_of hq, iE_of hq] at X3
    have H3 := Lib.hid X3
    by_cases ht : -1099511627776000000000 ≤ nanos x y ∧ nanos x y ≤ 1099511627776000000000
    · obtain ⟨u1, u2, u3⟩ := dd_yes ht
      rw [u1, u2, u3, e1, e2]
      rw [u3] at X4
      have H4 := Lib.hid X4
      clear X1 X2 X3 X4 ck u1 u2 u3 ht hq e1 e2 bx b bs
      generalize cb x (y / 1000000000) = o at *
      generalize x + y / 1000000000 = Q at *
      generalize y / 1000000000 = q at *
      generalize y % 1000000000 = R at *
      go_enter Tryd.func64, Tryd.ntmps64
      refine wp_shut ?_
      go_wp2_with fail
      
      refine (H1.out _).mono ?_
      rintro e V1 ⟨rfl, hb1⟩
      have B1 := Lib.hid (((((Below.refl w.heap.size w).alloc (Nat.le_refl _) _).alloc (by simp <;> omega) _).alloc (by simp <;> omega) _).trans (hb1.mono (by first | assumption | (simp <;> omega) | (simp; done))))
      have A1 := Lib.hid (row_call hb1 (row_alloc (row_alloc (heap_alloc_new _ _) _) _))
      have D1 := Lib.hid (row_at (k' := w.heap.size + 1) (by simp) (row_call hb1 (row_alloc (heap_alloc_new _ _) _)))
      have Z1 := Lib.hid (row_at (k' := w.heap.size + 1 + 1) (by simp) (row_call hb1 (heap_alloc_new _ _)))
      clear hb1
      have A1_0 : V1.cell? ⟨w.heap.size, 0, none⟩ = some (.int .u64 (zh x)) := cell_of_row _ _ _ _ _ _ A1.out
      have A1_1 : V1.cell? ⟨w.heap.size, 1, none⟩ = some (.int .u64 (zl x)) := cell_of_row _ _ _ _ _ _ A1.out
      have D1_0 : V1.cell? ⟨w.heap.size + 1, 0, none⟩ = some (.int .u64 (zh y)) := cell_of_row _ _ _ _ _ _ D1.out
      have D1_1 : V1.cell? ⟨w.heap.size + 1, 1, none⟩ = some (.int .u64 (zl y)) := cell_of_row _ _ _ _ _ _ D1.out
      have Z1_0 : V1.cell? ⟨w.heap.size + 1 + 1, 0, none⟩ = some (.int .i64 0) := cell_of_row _ _ _ _ _ _ Z1.out
      have Z1_1 : V1.cell? ⟨w.heap.size + 1 + 1, 1, none⟩ = some (.int .i64 0) := cell_of_row _ _ _ _ _ _ Z1.out
      have Z1_f0 : V1.frozen? ⟨w.heap.size + 1 + 1, 0, none⟩ = false := by simp [World.frozen?, Z1.out]
      have Z1_f1 : V1.frozen? ⟨w.heap.size + 1 + 1, 1, none⟩ = false := by simp [World.frozen?, Z1.out]
      have zA1 := lt_of_heap A1.out
      have zD1 := lt_of_heap D1.out
      have zZ1 := lt_of_heap Z1.out
      go_simp
      go_wp2_with fail
      refine (H2.out _).mono ?_
      rintro e V2 ⟨rfl, hb2⟩
      clear A1_0 A1_1 zA1 D1_0 D1_1 zD1 Z1_0 Z1_1 Z1_f0 Z1_f1 zZ1
      have nA1Q1 := Lib.hid (lt_of_heap A1.out)
      have nD1Q1 := Lib.hid (lt_of_heap D1.out)
      have nZ1Q1 := Lib.hid (lt_of_heap Z1.out)
      have B2 := Lib.hid (((B1.out).alloc (B1.out.size) _).trans (hb2.mono (by have := B1.out.size; first | assumption | (simp <;> omega) | (simp; done))))
      replace A1 := Lib.hid (row_call hb2 (row_alloc A1.out _))
      replace D1 := Lib.hid (row_call hb2 (row_alloc D1.out _))
      replace Z1 := Lib.hid (row_call hb2 (row_alloc Z1.out _))
      have Q1 := Lib.hid (row_call hb2 (heap_alloc_new _ _))
      clear hb2
      have A1_0 : V2.cell? ⟨w.heap.size, 0, none⟩ = some (.int .u64 (zh x)) := cell_of_row _ _ _ _ _ _ A1.out
      have A1_1 : V2.cell? ⟨w.heap.size, 1, none⟩ = some (.int .u64 (zl x)) := cell_of_row _ _ _ _ _ _ A1.out
      have D1_0 : V2.cell? ⟨w.heap.size + 1, 0, none⟩ = some (.int .u64 (zh y)) := cell_of_row _ _ _ _ _ _ D1.out
      have D1_1 : V2.cell? ⟨w.heap.size + 1, 1, none⟩ = some (.int .u64 (zl y)) := cell_of_row _ _ _ _ _ _ D1.out
      have Z1_0 : V2.cell? ⟨w.heap.size + 1 + 1, 0, none⟩ = some (.int .i64 0) := cell_of_row _ _ _ _ _ _ Z1.out
      have Z1_1 : V2.cell? ⟨w.heap.size + 1 + 1, 1, none⟩ = some (.int .i64 0) := cell_of_row _ _ _ _ _ _ Z1.out
      have Z1_f0 : V2.frozen? ⟨w.heap.size + 1 + 1, 0, none⟩ = false := by simp [World.frozen?, Z1.out]
      have Z1_f1 : V2.frozen? ⟨w.heap.size + 1 + 1, 1, none⟩ = false := by simp [World.frozen?, Z1.out]
      have Q1_0 : V2.cell? ⟨V1.heap.size, 0, none⟩ = some (.int .u64 (zh q)) := cell_of_row _ _ _ _ _ _ Q1.out
      have Q1_1 : V2.cell? ⟨V1.heap.size, 1, none⟩ = some (.int .u64 (zl q)) := cell_of_row _ _ _ _ _ _ Q1.out
      have zA1 := lt_of_heap A1.out
      have zD1 := lt_of_heap D1.out
      have zZ1 := lt_of_heap Z1.out
      have zQ1 := lt_of_heap Q1.out
      go_simp
      go_wp2_with fail
      refine (H3.out _).mono ?_
      rintro e V3 ⟨rfl, hb3⟩
      clear A1_0 A1_1 zA1 D1_0 D1_1 zD1 Z1_0 Z1_1 Z1_f0 Z1_f1 zZ1 Q1_0 Q1_1 zQ1
      have nA1S1 := Lib.hid (lt_of_heap A1.out)
      have nD1S1 := Lib.hid (lt_of_heap D1.out)
      have nZ1S1 := Lib.hid (lt_of_heap Z1.out)
      have nQ1S1 := Lib.hid (lt_of_heap Q1.out)
      have B3 := Lib.hid (((B2.out).alloc (B2.out.size) _).trans (hb3.mono (by have := B2.out.size; first | assumption | (simp <;> omega) | (simp; done))))
      replace A1 := Lib.hid (row_call hb3 (row_alloc A1.out _))
      replace D1 := Lib.hid (row_call hb3 (row_alloc D1.out _))
      replace Z1 := Lib.hid (row_call hb3 (row_alloc Z1.out _))
      replace Q1 := Lib.hid (row_call hb3 (row_alloc Q1.out _))
      have S1 := Lib.hid (row_call hb3 (heap_alloc_new _ _))
      clear hb3
      have A1_0 : V3.cell? ⟨w.heap.size, 0, none⟩ = some (.int .u64 (zh x)) := cell_of_row _ _ _ _ _ _ A1.out
      have A1_1 : V3.cell? ⟨w.heap.size, 1, none⟩ = some (.int .u64 (zl x)) := cell_of_row _ _ _ _ _ _ A1.out
      have D1_0 : V3.cell? ⟨w.heap.size + 1, 0, none⟩ = some (.int .u64 (zh y)) := cell_of_row _ _ _ _ _ _ D1.out
      have D1_1 : V3.cell? ⟨w.heap.size + 1, 1, none⟩ = some (.int .u64 (zl y)) := cell_of_row _ _ _ _ _ _ D1.out
      have Z1_0 : V3.cell? ⟨w.heap.size + 1 + 1, 0, none⟩ = some (.int .i64 0) := cell_of_row _ _ _ _ _ _ Z1.out
      have Z1_1 : V3.cell? ⟨w.heap.size + 1 + 1, 1, none⟩ = some (.int .i64 0) := cell_of_row _ _ _ _ _ _ Z1.out
      have Z1_f0 : V3.frozen? ⟨w.heap.size + 1 + 1, 0, none⟩ = false := by simp [World.frozen?, Z1.out]
      have Z1_f1 : V3.frozen? ⟨w.heap.size + 1 + 1, 1, none⟩ = false := by simp [World.frozen?, Z1.out]
      have Q1_0 : V3.cell? ⟨V1.heap.size, 0, none⟩ = some (.int .u64 (zh q)) := cell_of_row _ _ _ _ _ _ Q1.out
      have Q1_1 : V3.cell? ⟨V1.heap.size, 1, none⟩ = some (.int .u64 (zl q)) := cell_of_row _ _ _ _ _ _ Q1.out
      have S1_0 : V3.cell? ⟨V2.heap.size, 0, none⟩ = some (.int .u64 (zh Q)) := cell_of_row _ _ _ _ _ _ S1.out
      have S1_1 : V3.cell? ⟨V2.heap.size, 1, none⟩ = some (.int .u64 (zl Q)) := cell_of_row _ _ _ _ _ _ S1.out
      have zA1 := lt_of_heap A1.out
      have zD1 := lt_of_heap D1.out
      have zZ1 := lt_of_heap Z1.out
      have zQ1 := lt_of_heap Q1.out
      have zS1 := lt_of_heap S1.out
      go_simp
      go_wp2_with fail
      refine (H4.out _).mono ?_
      rintro e V4 ⟨rfl, hb4⟩
      clear A1_0 A1_1 zA1 D1_0 D1_1 zD1 Z1_0 Z1_1 Z1_f0 Z1_f1 zZ1 Q1_0 Q1_1 zQ1 S1_0 S1_1 zS1
      have nA1I1 := Lib.hid (lt_of_heap A1.out)
      have nD1I1 := Lib.hid (lt_of_heap D1.out)
      have nZ1I1 := Lib.hid (lt_of_heap Z1.out)
      have nQ1I1 := Lib.hid (lt_of_heap Q1.out)
      have nS1I1 := Lib.hid (lt_of_heap S1.out)
      have B4 := Lib.hid (((B3.out).alloc (B3.out.size) _).trans (hb4.mono (by have := B3.out.size; first | assumption | (simp <;> omega) | (simp; done))))
      replace A1 := Lib.hid (row_call hb4 (row_alloc A1.out _))
      replace D1 := Lib.hid (row_call hb4 (row_alloc D1.out _))
      replace Z1 := Lib.hid (row_call hb4 (row_alloc Z1.out _))
      replace Q1 := Lib.hid (row_call hb4 (row_alloc Q1.out _))
      replace S1 := Lib.hid (row_call hb4 (row_alloc S1.out _))
      have I1 := Lib.hid (row_call hb4 (heap_alloc_new _ _))
      clear hb4
      have A1_0 : V4.cell? ⟨w.heap.size, 0, none⟩ = some (.int .u64 (zh x)) := cell_of_row _ _ _ _ _ _ A1.out
      have A1_1 : V4.cell? ⟨w.heap.size, 1, none⟩ = some (.int .u64 (zl x)) := cell_of_row _ _ _ _ _ _ A1.out
      have D1_0 : V4.cell? ⟨w.heap.size + 1, 0, none⟩ = some (.int .u64 (zh y)) := cell_of_row _ _ _ _ _ _ D1.out
      have D1_1 : V4.cell? ⟨w.heap.size + 1, 1, none⟩ = some (.int .u64 (zl y)) := cell_of_row _ _ _ _ _ _ D1.out
      have Z1_0 : V4.cell? ⟨w.heap.size + 1 + 1, 0, none⟩ = some (.int .i64 0) := cell_of_row _ _ _ _ _ _ Z1.out
      have Z1_1 : V4.cell? ⟨w.heap.size + 1 + 1, 1, none⟩ = some (.int .i64 0) := cell_of_row _ _ _ _ _ _ Z1.out
      have Z1_f0 : V4.frozen? ⟨w.heap.size + 1 + 1, 0, none⟩ = false := by simp [World.frozen?, Z1.out]
      have Z1_f1 : V4.frozen? ⟨w.heap.size + 1 + 1, 1, none⟩ = false := by simp [World.frozen?, Z1.out]
      have Q1_0 : V4.cell? ⟨V1.heap.size, 0, none⟩ = some (.int .u64 (zh q)) := cell_of_row _ _ _ _ _ _ Q1.out
      have Q1_1 : V4.cell? ⟨V1.heap.size, 1, none⟩ = some (.int .u64 (zl q)) := cell_of_row _ _ _ _ _ _ Q1.out
      have S1_0 : V4.cell? ⟨V2.heap.size, 0, none⟩ = some (.int .u64 (zh Q)) := cell_of_row _ _ _ _ _ _ S1.out
      have S1_1 : V4.cell? ⟨V2.heap.size, 1, none⟩ = some (.int .u64 (zl Q)) := cell_of_row _ _ _ _ _ _ S1.out
      have I1_0 : V4.cell? ⟨V3.heap.size, 0, none⟩ = some (.int .i64 Q) := cell_of_row _ _ _ _ _ _ I1.out
      have I1_1 : V4.cell? ⟨V3.heap.size, 1, none⟩ = some (.int .i64 R) := cell_of_row _ _ _ _ _ _ I1.out
      have zA1 := lt_of_heap A1.out
      have zD1 := lt_of_heap D1.out
      have zZ1 := lt_of_heap Z1.out
      have zQ1 := lt_of_heap Q1.out
      have zS1 := lt_of_heap S1.out
      have zI1 := lt_of_heap I1.out
      go_simp
      go_wp2
      refine shut_ret (v := .tuple #[.agg #[.int .i64 Q, .int .i64 R], .int .i64 0]) (by simp [results, Tryd.results64, go_sem, zZ1, Z1_0, Z1_1]) rfl ⟨rfl, ?_⟩
      exact keep2 B4.out (by omega) _ _
    · obtain ⟨u1, u2, u3⟩ := dd_no ht
      rw [u1, u2, u3]
      rw [u3] at X4
      have H4 := Lib.hid X4
      clear X1 X2 X3 X4 ck u1 u2 u3 ht hq e1 e2 bx b bs
      generalize cb x (y / 1000000000) = o at *
      generalize x + y / 1000000000 = Q at *
      generalize y / 1000000000 = q at *
      generalize y % 1000000000 = R at *
      go_enter Tryd.func64, Tryd.ntmps64
      refine wp_shut ?_
      go_wp2_with fail
      
      refine (H1.out _).mono ?_
      rintro e V1 ⟨rfl, hb1⟩
      have B1 := Lib.hid (((((Below.refl w.heap.size w).alloc (Nat.le_refl _) _).alloc (by simp <;> omega) _).alloc (by simp <;> omega) _).trans (hb1.mono (by first | assumption | (simp <;> omega) | (simp; done))))
      have A1 := Lib.hid (row_call hb1 (row_alloc (row_alloc (heap_alloc_new _ _) _) _))
      have D1 := Lib.hid (row_at (k' := w.heap.size + 1) (by simp) (row_call hb1 (row_alloc (heap_alloc_new _ _) _)))
      have Z1 := Lib.hid (row_at (k' := w.heap.size + 1 + 1) (by simp) (row_call hb1 (heap_alloc_new _ _)))
      clear hb1
      have A1_0 : V1.cell? ⟨w.heap.size, 0, none⟩ = some (.int .u64 (zh x)) := cell_of_row _ _ _ _ _ _ A1.out
      have A1_1 : V1.cell? ⟨w.heap.size, 1, none⟩ = some (.int .u64 (zl x)) := cell_of_row _ _ _ _ _ _ A1.out
      have D1_0 : V1.cell? ⟨w.heap.size + 1, 0, none⟩ = some (.int .u64 (zh y)) := cell_of_row _ _ _ _ _ _ D1.out
      have D1_1 : V1.cell? ⟨w.heap.size + 1, 1, none⟩ = some (.int .u64 (zl y)) := cell_of_row _ _ _ _ _ _ D1.out
      have Z1_0 : V1.cell? ⟨w.heap.size + 1 + 1, 0, none⟩ = some (.int .i64 0) := cell_of_row _ _ _ _ _ _ Z1.out
      have Z1_1 : V1.cell? ⟨w.heap.size + 1 + 1, 1, none⟩ = some (.int .i64 0) := cell_of_row _ _ _ _ _ _ Z1.out
      have Z1_f0 : V1.frozen? ⟨w.heap.size + 1 + 1, 0, none⟩ = false := by simp [World.frozen?, Z1.out]
      have Z1_f1 : V1.frozen? ⟨w.heap.size + 1 + 1, 1, none⟩ = false := by simp [World.frozen?, Z1.out]
      have zA1 := lt_of_heap A1.out
      have zD1 := lt_of_heap D1.out
      have zZ1 := lt_of_heap Z1.out
      go_simp
      go_wp2_with fail
      refine (H2.out _).mono ?_
      rintro e V2 ⟨rfl, hb2⟩
      clear A1_0 A1_1 zA1 D1_0 D1_1 zD1 Z1_0 Z1_1 Z1_f0 Z1_f1 zZ1
      have nA1Q1 := Lib.hid (lt_of_heap A1.out)
      have nD1Q1 := Lib.hid (lt_of_heap D1.out)
      have nZ1Q1 := Lib.hid (lt_of_heap Z1.out)
      have B2 := Lib.hid (((B1.out).alloc (B1.out.size) _).trans (hb2.mono (by have := B1.out.size; first | assumption | (simp <;> omega) | (simp; done))))
      replace A1 := Lib.hid (row_call hb2 (row_alloc A1.out _))
      replace D1 := Lib.hid (row_call hb2 (row_alloc D1.out _))
      replace Z1 := Lib.hid (row_call hb2 (row_alloc Z1.out _))
      have Q1 := Lib.hid (row_call hb2 (heap_alloc_new _ _))
      clear hb2
      have A1_0 : V2.cell? ⟨w.heap.size, 0, none⟩ = some (.int .u64 (zh x)) := cell_of_row _ _ _ _ _ _ A1.out
      have A1_1 : V2.cell? ⟨w.heap.size, 1, none⟩ = some (.int .u64 (zl x)) := cell_of_row _ _ _ _ _ _ A1.out
      have D1_0 : V2.cell? ⟨w.heap.size + 1, 0, none⟩ = some (.int .u64 (zh y)) := cell_of_row _ _ _ _ _ _ D1.out
      have D1_1 : V2.cell? ⟨w.heap.size + 1, 1, none⟩ = some (.int .u64 (zl y)) := cell_of_row _ _ _ _ _ _ D1.out
      have Z1_0 : V2.cell? ⟨w.heap.size + 1 + 1, 0, none⟩ = some (.int .i64 0) := cell_of_row _ _ _ _ _ _ Z1.out
      have Z1_1 : V2.cell? ⟨w.heap.size + 1 + 1, 1, none⟩ = some (.int .i64 0) := cell_of_row _ _ _ _ _ _ Z1.out
      have Z1_f0 : V2.frozen? ⟨w.heap.size + 1 + 1, 0, none⟩ = false := by simp [World.frozen?, Z1.out]
      have Z1_f1 : V2.frozen? ⟨w.heap.size + 1 + 1, 1, none⟩ = false := by simp [World.frozen?, Z1.out]
      have Q1_0 : V2.cell? ⟨V1.heap.size, 0, none⟩ = some (.int .u64 (zh q)) := cell_of_row _ _ _ _ _ _ Q1.out
      have Q1_1 : V2.cell? ⟨V1.heap.size, 1, none⟩ = some (.int .u64 (zl q)) := cell_of_row _ _ _ _ _ _ Q1.out
      have zA1 := lt_of_heap A1.out
      have zD1 := lt_of_heap D1.out
      have zZ1 := lt_of_heap Z1.out
      have zQ1 := lt_of_heap Q1.out
      go_simp
      go_wp2_with fail
      refine (H3.out _).mono ?_
      rintro e V3 ⟨rfl, hb3⟩
      clear A1_0 A1_1 zA1 D1_0 D1_1 zD1 Z1_0 Z1_1 Z1_f0 Z1_f1 zZ1 Q1_0 Q1_1 zQ1
      have nA1S1 := Lib.hid (lt_of_heap A1.out)
      have nD1S1 := Lib.hid (lt_of_heap D1.out)
      have nZ1S1 := Lib.hid (lt_of_heap Z1.out)
      have nQ1S1 := Lib.hid (lt_of_heap Q1.out)
      have B3 := Lib.hid (((B2.out).alloc (B2.out.size) _).trans (hb3.mono (by have := B2.out.size; first | assumption | (simp <;> omega) | (simp; done))))
      replace A1 := Lib.hid (row_call hb3 (row_alloc A1.out _))
      replace D1 := Lib.hid (row_call hb3 (row_alloc D1.out _))
      replace Z1 := Lib.hid (row_call hb3 (row_alloc Z1.out _))
      replace Q1 := Lib.hid (row_call hb3 (row_alloc Q1.out _))
      have S1 := Lib.hid (row_call hb3 (heap_alloc_new _ _))
      clear hb3
      have A1_0 : V3.cell? ⟨w.heap.size, 0, none⟩ = some (.int .u64 (zh x)) := cell_of_row _ _ _ _ _ _ A1.out
      have A1_1 : V3.cell? ⟨w.heap.size, 1, none⟩ = some (.int .u64 (zl x)) := cell_of_row _ _ _ _ _ _ A1.out
      have D1_0 : V3.cell? ⟨w.heap.size + 1, 0, none⟩ = some (.int .u64 (zh y)) := cell_of_row _ _ _ _ _ _ D1.out
      have D1_1 : V3.cell? ⟨w.heap.size + 1, 1, none⟩ = some (.int .u64 (zl y)) := cell_of_row _ _ _ _ _ _ D1.out
      have Z1_0 : V3.cell? ⟨w.heap.size + 1 + 1, 0, none⟩ = some (.int .i64 0) := cell_of_row _ _ _ _ _ _ Z1.out
      have Z1_1 : V3.cell? ⟨w.heap.size + 1 + 1, 1, none⟩ = some (.int .i64 0) := cell_of_row _ _ _ _ _ _ Z1.out
      have Z1_f0 : V3.frozen? ⟨w.heap.size + 1 + 1, 0, none⟩ = false := by simp [World.frozen?, Z1.out]
      have Z1_f1 : V3.frozen? ⟨w.heap.size + 1 + 1, 1, none⟩ = false := by simp [World.frozen?, Z1.out]
      have Q1_0 : V3.cell? ⟨V1.heap.size, 0, none⟩ = some (.int .u64 (zh q)) := cell_of_row _ _ _ _ _ _ Q1.out
      have Q1_1 : V3.cell? ⟨V1.heap.size, 1, none⟩ = some (.int .u64 (zl q)) := cell_of_row _ _ _ _ _ _ Q1.out
      have S1_0 : V3.cell? ⟨V2.heap.size, 0, none⟩ = some (.int .u64 (zh Q)) := cell_of_row _ _ _ _ _ _ S1.out
      have S1_1 : V3.cell? ⟨V2.heap.size, 1, none⟩ = some (.int .u64 (zl Q)) := cell_of_row _ _ _ _ _ _ S1.out
      have zA1 := lt_of_heap A1.out
      have zD1 := lt_of_heap D1.out
      have zZ1 := lt_of_heap Z1.out
      have zQ1 := lt_of_heap Q1.out
      have zS1 := lt_of_heap S1.out
      go_simp
      go_wp2_with fail
      refine (H4.out _).mono ?_
      rintro e V4 ⟨rfl, hb4⟩
      clear A1_0 A1_1 zA1 D1_0 D1_1 zD1 Z1_0 Z1_1 Z1_f0 Z1_f1 zZ1 Q1_0 Q1_1 zQ1 S1_0 S1_1 zS1
      have nA1I1 := Lib.hid (lt_of_heap A1.out)
      have nD1I1 := Lib.hid (lt_of_heap D1.out)
      have nZ1I1 := Lib.hid (lt_of_heap Z1.out)
      have nQ1I1 := Lib.hid (lt_of_heap Q1.out)
      have nS1I1 := Lib.hid (lt_of_heap S1.out)
      have B4 := Lib.hid (((B3.out).alloc (B3.out.size) _).trans (hb4.mono (by have := B3.out.size; first | assumption | (simp <;> omega) | (simp; done))))
      replace A1 := Lib.hid (row_call hb4 (row_alloc A1.out _))
      replace D1 := Lib.hid (row_call hb4 (row_alloc D1.out _))
      replace Z1 := Lib.hid (row_call hb4 (row_alloc Z1.out _))
      replace Q1 := Lib.hid (row_call hb4 (row_alloc Q1.out _))
      replace S1 := Lib.hid (row_call hb4 (row_alloc S1.out _))
      have I1 := Lib.hid (row_call hb4 (heap_alloc_new _ _))
      clear hb4
      have A1_0 : V4.cell? ⟨w.heap.size, 0, none⟩ = some (.int .u64 (zh x)) := cell_of_row _ _ _ _ _ _ A1.out
      have A1_1 : V4.cell? ⟨w.heap.size, 1, none⟩ = some (.int .u64 (zl x)) := cell_of_row _ _ _ _ _ _ A1.out
      have D1_0 : V4.cell? ⟨w.heap.size + 1, 0, none⟩ = some (.int .u64 (zh y)) := cell_of_row _ _ _ _ _ _ D1.out
      have D1_1 : V4.cell? ⟨w.heap.size + 1, 1, none⟩ = some (.int .u64 (zl y)) := cell_of_row _ _ _ _ _ _ D1.out
      have Z1_0 : V4.cell? ⟨w.heap.size + 1 + 1, 0, none⟩ = some (.int .i64 0) := cell_of_row _ _ _ _ _ _ Z1.out
      have Z1_1 : V4.cell? ⟨w.heap.size + 1 + 1, 1, none⟩ = some (.int .i64 0) := cell_of_row _ _ _ _ _ _ Z1.out
      have Z1_f0 : V4.frozen? ⟨w.heap.size + 1 + 1, 0, none⟩ = false := by simp [World.frozen?, Z1.out]
      have Z1_f1 : V4.frozen? ⟨w.heap.size + 1 + 1, 1, none⟩ = false := by simp [World.frozen?, Z1.out]
      have Q1_0 : V4.cell? ⟨V1.heap.size, 0, none⟩ = some (.int .u64 (zh q)) := cell_of_row _ _ _ _ _ _ Q1.out
      have Q1_1 : V4.cell? ⟨V1.heap.size, 1, none⟩ = some (.int .u64 (zl q)) := cell_of_row _ _ _ _ _ _ Q1.out
      have S1_0 : V4.cell? ⟨V2.heap.size, 0, none⟩ = some (.int .u64 (zh Q)) := cell_of_row _ _ _ _ _ _ S1.out
      have S1_1 : V4.cell? ⟨V2.heap.size, 1, none⟩ = some (.int .u64 (zl Q)) := cell_of_row _ _ _ _ _ _ S1.out
      have I1_0 : V4.cell? ⟨V3.heap.size, 0, none⟩ = some (.int .i64 Q) := cell_of_row _ _ _ _ _ _ I1.out
      have I1_1 : V4.cell? ⟨V3.heap.size, 1, none⟩ = some (.int .i64 R) := cell_of_row _ _ _ _ _ _ I1.out
      have zA1 := lt_of_heap A1.out
      have zD1 := lt_of_heap D1.out
      have zZ1 := lt_of_heap Z1.out
      have zQ1 := lt_of_heap Q1.out
      have zS1 := lt_of_heap S1.out
      have zI1 := lt_of_heap I1.out
      go_simp
      go_wp2
      refine shut_ret (v := .tuple #[.agg #[.int .i64 0, .int .i64 0], .int .i64 8]) (by simp [results, Tryd.results64, go_sem, zZ1, Z1_0, Z1_1]) rfl ⟨rfl, ?_⟩
      exact keep2 B4.out (by omega) _ _
  · rw [iV_not hq, iE_not hq] at X3
    rw [← e1] at hq
    obtain ⟨u1, u2, u3⟩ := dd_no (duE_far hq)
    rw [u1, u2, u3]
    have H3 := Lib.hid X3
    clear X1 X2 X3 X4 ck u1 u2 u3 hq e1 e2 bx b bs
    generalize cb x (y / 1000000000) = o at *
    generalize x + y / 1000000000 = Q at *
    generalize y / 1000000000 = q at *
    generalize y % 1000000000 = R at *
    go_enter Tryd.func64, Tryd.ntmps64
    refine wp_shut ?_
    go_wp2_with fail
    
    refine (H1.out _).mono ?_
    rintro e V1 ⟨rfl, hb1⟩
    have B1 := Lib.hid (((((Below.refl w.heap.size w).alloc (Nat.le_refl _) _).alloc (by simp <;> omega) _).alloc (by simp <;> omega) _).trans (hb1.mono (by first | assumption | (simp <;> omega) | (simp; done))))
    have A1 := Lib.hid (row_call hb1 (row_alloc (row_alloc (heap_alloc_new _ _) _) _))
    have D1 := Lib.hid (row_at (k' := w.heap.size + 1) (by simp) (row_call hb1 (row_alloc (heap_alloc_new _ _) _)))
    have Z1 := Lib.hid (row_at (k' := w.heap.size + 1 + 1) (by simp) (row_call hb1 (heap_alloc_new _ _)))
    clear hb1
    have A1_0 : V1.cell? ⟨w.heap.size, 0, none⟩ = some (.int .u64 (zh x)) := cell_of_row _ _ _ _ _ _ A1.out
    have A1_1 : V1.cell? ⟨w.heap.size, 1, none⟩ = some (.int .u64 (zl x)) := cell_of_row _ _ _ _ _ _ A1.out
    have D1_0 : V1.cell? ⟨w.heap.size + 1, 0, none⟩ = some (.int .u64 (zh y)) := cell_of_row _ _ _ _ _ _ D1.out
    have D1_1 : V1.cell? ⟨w.heap.size + 1, 1, none⟩ = some (.int .u64 (zl y)) := cell_of_row _ _ _ _ _ _ D1.out
    have Z1_0 : V1.cell? ⟨w.heap.size + 1 + 1, 0, none⟩ = some (.int .i64 0) := cell_of_row _ _ _ _ _ _ Z1.out
    have Z1_1 : V1.cell? ⟨w.heap.size + 1 + 1, 1, none⟩ = some (.int .i64 0) := cell_of_row _ _ _ _ _ _ Z1.out
    have Z1_f0 : V1.frozen? ⟨w.heap.size + 1 + 1, 0, none⟩ = false := by simp [World.frozen?, Z1.out]
    have Z1_f1 : V1.frozen? ⟨w.heap.size + 1 + 1, 1, none⟩ = false := by simp [World.frozen?, Z1.out]
    have zA1 := lt_of_heap A1.out
    have zD1 := lt_of_heap D1.out
    have zZ1 := lt_of_heap Z1.out
    go_simp
    go_wp2_with fail
    refine (H2.out _).mono ?_
    rintro e V2 ⟨rfl, hb2⟩
    clear A1_0 A1_1 zA1 D1_0 D1_1 zD1 Z1_0 Z1_1 Z1_f0 Z1_f1 zZ1
    have nA1Q1 := Lib.hid (lt_of_heap A1.out)
    have nD1Q1 := Lib.hid (lt_of_heap D1.out)
    have nZ1Q1 := Lib.hid (lt_of_heap Z1.out)
    have B2 := Lib.hid (((B1.out).alloc (B1.out.size) _).trans (hb2.mono (by have := B1.out.size; first | assumption | (simp <;> omega) | (simp; done))))
    replace A1 := Lib.hid (row_call hb2 (row_alloc A1.out _))
    replace D1 := Lib.hid (row_call hb2 (row_alloc D1.out _))
    replace Z1 := Lib.hid (row_call hb2 (row_alloc Z1.out _))
    have Q1 := Lib.hid (row_call hb2 (heap_alloc_new _ _))
    clear hb2
    have A1_0 : V2.cell? ⟨w.heap.size, 0, none⟩ = some (.int .u64 (zh x)) := cell_of_row _ _ _ _ _ _ A1.out
    have A1_1 : V2.cell? ⟨w.heap.size, 1, none⟩ = some (.int .u64 (zl x)) := cell_of_row _ _ _ _ _ _ A1.out
    have D1_0 : V2.cell? ⟨w.heap.size + 1, 0, none⟩ = some (.int .u64 (zh y)) := cell_of_row _ _ _ _ _ _ D1.out
    have D1_1 : V2.cell? ⟨w.heap.size + 1, 1, none⟩ = some (.int .u64 (zl y)) := cell_of_row _ _ _ _ _ _ D1.out
    have Z1_0 : V2.cell? ⟨w.heap.size + 1 + 1, 0, none⟩ = some (.int .i64 0) := cell_of_row _ _ _ _ _ _ Z1.out
    have Z1_1 : V2.cell? ⟨w.heap.size + 1 + 1, 1, none⟩ = some (.int .i64 0) := cell_of_row _ _ _ _ _ _ Z1.out
    have Z1_f0 : V2.frozen? ⟨w.heap.size + 1 + 1, 0, none⟩ = false := by simp [World.frozen?, Z1.out]
    have Z1_f1 : V2.frozen? ⟨w.heap.size + 1 + 1, 1, none⟩ = false := by simp [World.frozen?, Z1.out]
    have Q1_0 : V2.cell? ⟨V1.heap.size, 0, none⟩ = some (.int .u64 (zh q)) := cell_of_row _ _ _ _ _ _ Q1.out
    have Q1_1 : V2.cell? ⟨V1.heap.size, 1, none⟩ = some (.int .u64 (zl q)) := cell_of_row _ _ _ _ _ _ Q1.out
    have zA1 := lt_of_heap A1.out
    have zD1 := lt_of_heap D1.out
    have zZ1 := lt_of_heap Z1.out
    have zQ1 := lt_of_heap Q1.out
    go_simp
    go_wp2_with fail
    refine (H3.out _).mono ?_
    rintro e V3 ⟨rfl, hb3⟩
    clear A1_0 A1_1 zA1 D1_0 D1_1 zD1 Z1_0 Z1_1 Z1_f0 Z1_f1 zZ1 Q1_0 Q1_1 zQ1
    have nA1S1 := Lib.hid (lt_of_heap A1.out)
    have nD1S1 := Lib.hid (lt_of_heap D1.out)
    have nZ1S1 := Lib.hid (lt_of_heap Z1.out)
    have nQ1S1 := Lib.hid (lt_of_heap Q1.out)
    have B3 := Lib.hid (((B2.out).alloc (B2.out.size) _).trans (hb3.mono (by have := B2.out.size; first | assumption | (simp <;> omega) | (simp; done))))
    replace A1 := Lib.hid (row_call hb3 (row_alloc A1.out _))
    replace D1 := Lib.hid (row_call hb3 (row_alloc D1.out _))
    replace Z1 := Lib.hid (row_call hb3 (row_alloc Z1.out _))
    replace Q1 := Lib.hid (row_call hb3 (row_alloc Q1.out _))
    have S1 := Lib.hid (row_call hb3 (heap_alloc_new _ _))
    clear hb3
    have A1_0 : V3.cell? ⟨w.heap.size, 0, none⟩ = some (.int .u64 (zh x)) := cell_of_row _ _ _ _ _ _ A1.out
    have A1_1 : V3.cell? ⟨w.heap.size, 1, none⟩ = some (.int .u64 (zl x)) := cell_of_row _ _ _ _ _ _ A1.out
    have D1_0 : V3.cell? ⟨w.heap.size + 1, 0, none⟩ = some (.int .u64 (zh y)) := cell_of_row _ _ _ _ _ _ D1.out
    have D1_1 : V3.cell? ⟨w.heap.size + 1, 1, none⟩ = some (.int .u64 (zl y)) := cell_of_row _ _ _ _ _ _ D1.out
    have Z1_0 : V3.cell? ⟨w.heap.size + 1 + 1, 0, none⟩ = some (.int .i64 0) := cell_of_row _ _ _ _ _ _ Z1.out
    have Z1_1 : V3.cell? ⟨w.heap.size + 1 + 1, 1, none⟩ = some (.int .i64 0) := cell_of_row _ _ _ _ _ _ Z1.out
    have Z1_f0 : V3.frozen? ⟨w.heap.size + 1 + 1, 0, none⟩ = false := by simp [World.frozen?, Z1.out]
    have Z1_f1 : V3.frozen? ⟨w.heap.size + 1 + 1, 1, none⟩ = false := by simp [World.frozen?, Z1.out]
    have Q1_0 : V3.cell? ⟨V1.heap.size, 0, none⟩ = some (.int .u64 (zh q)) := cell_of_row _ _ _ _ _ _ Q1.out
    have Q1_1 : V3.cell? ⟨V1.heap.size, 1, none⟩ = some (.int .u64 (zl q)) := cell_of_row _ _ _ _ _ _ Q1.out
    have S1_0 : V3.cell? ⟨V2.heap.size, 0, none⟩ = some (.int .u64 (zh Q)) := cell_of_row _ _ _ _ _ _ S1.out
    have S1_1 : V3.cell? ⟨V2.heap.size, 1, none⟩ = some (.int .u64 (zl Q)) := cell_of_row _ _ _ _ _ _ S1.out
    have zA1 := lt_of_heap A1.out
    have zD1 := lt_of_heap D1.out
    have zZ1 := lt_of_heap Z1.out
    have zQ1 := lt_of_heap Q1.out
    have zS1 := lt_of_heap S1.out
    go_simp
    go_wp2
    refine shut_ret (v := .tuple #[.agg #[.int .i64 0, .int .i64 0], .int .i64 8]) (by simp [results, Tryd.results64, go_sem, zZ1, Z1_0, Z1_1]) rfl ⟨rfl, ?_⟩
    exact keep2 B3.out (by omega) _ _
end Go.Proofs.YtaoljjhhbmblhaaDoor
namespace Go.Proofs.YtaoljjhhbmblhaaDoor
set_option linter.unusedVariables false
set_option linter.unusedSimpArgs false
open Go.ChangeShapes Go.WideShapes Go.ChangeAt Go.RowKit
theorem join_new (s n : Int) (bs : in64 s) (bn : in64 n) (w : World) :
    Calls Tryd.prog 64 #[.agg #[.int .u64 (zh s), .int .u64 (zl s)], .agg #[.int .u64 (zh n), .int .u64 (zl n)]] w fun e w' => e = .returned (.tuple #[.agg #[.int .i64 (duS (nanos s n)), .int .i64 (duN (nanos s n))], .int .i64 (duE (nanos s n))]) ∧ Below w.heap.size w w' :=
  join_any s n bs.wide bn.wide (by unfold in64 at *; unfold in128; omega) w
set_option maxHeartbeats 1600000 in
set_option maxRecDepth 100000 in
theorem dNew_any (s n : Int) (bs : in64 s) (bn : in64 n) (w : World) :
    Calls Tryd.prog 38 #[.int .i64 s, .int .i64 n] w fun e w' => e = .returned (.tuple #[.agg #[.int .i64 (duS (nanos s n)), .int .i64 (duN (nanos s n))], .int .i64 (duE (nanos s n))]) ∧ Below w.heap.size w w' := by
  have H1 := Lib.hid (zOf_any s bs)
  have H2 := Lib.hid (zOf_any n bn)
  have H3 := Lib.hid (join_new s n bs bn)
  clear bs bn
  generalize nanos s n = T at *
  generalize duS T = S at *
  generalize duN T = N at *
  generalize duE T = E at *
  go_enter Tryd.func38, Tryd.ntmps38
  refine wp_shut ?_
  go_wp2_with fail
  
  refine (H1.out _).mono ?_
  rintro e V1 ⟨rfl, hb1⟩
  have B1 := Lib.hid (((Below.refl w.heap.size w).alloc (Nat.le_refl _) _).trans (hb1.mono (by first | assumption | (simp <;> omega) | (simp; done))))
  have Z1 := Lib.hid (row_call hb1 (heap_alloc_new _ _))
  clear hb1
  have Z1_0 : V1.cell? ⟨w.heap.size, 0, none⟩ = some (.int .i64 0) := cell_of_row _ _ _ _ _ _ Z1.out
  have Z1_1 : V1.cell? ⟨w.heap.size, 1, none⟩ = some (.int .i64 0) := cell_of_row _ _ _ _ _ _ Z1.out
  have Z1_f0 : V1.frozen? ⟨w.heap.size, 0, none⟩ = false := by simp [World.frozen?, Z1.out]
  have Z1_f1 : V1.frozen? ⟨w.heap.size, 1, none⟩ = false := by simp [World.frozen?, Z1.out]
  have zZ1 := lt_of_heap Z1.out
  go_simp
  go_wp2_with fail
  refine (H2.out _).mono ?_
  rintro e V2 ⟨rfl, hb2⟩
  clear Z1_0 Z1_1 Z1_f0 Z1_f1 zZ1
  have B2 : Hid (Below w.heap.size w V2) := by first | exact Lib.hid ((B1.out).trans (hb2.mono (by have := B1.out.size; first | assumption | (simp <;> omega) | (simp; done)))) | exact Lib.hid (((B1.out).alloc (B1.out.size) _).trans (hb2.mono (by have := B1.out.size; first | assumption | (simp <;> omega) | (simp; done)))) | exact Lib.hid ((((B1.out).alloc (B1.out.size) _).alloc (by have := B1.out.size; simp <;> omega) _).trans (hb2.mono (by have := B1.out.size; first | assumption | (simp <;> omega) | (simp; done)))) | exact Lib.hid (((((B1.out).alloc (B1.out.size) _).alloc (by have := B1.out.size; simp <;> omega) _).alloc (by have := B1.out.size; simp <;> omega) _).trans (hb2.mono (by have := B1.out.size; first | assumption | (simp <;> omega) | (simp; done))))
  first | replace Z1 := Lib.hid (row_call hb2 Z1.out) | replace Z1 := Lib.hid (row_call hb2 (row_alloc Z1.out _)) | replace Z1 := Lib.hid (row_call hb2 (row_alloc (row_alloc Z1.out _) _)) | replace Z1 := Lib.hid (row_call hb2 (row_alloc (row_alloc (row_alloc Z1.out _) _) _))
  clear hb2
  have Z1_0 : V2.cell? ⟨w.heap.size, 0, none⟩ = some (.int .i64 0) := cell_of_row _ _ _ _ _ _ Z1.out
  have Z1_1 : V2.cell? ⟨w.heap.size, 1, none⟩ = some (.int .i64 0) := cell_of_row _ _ _ _ _ _ Z1.out
  have Z1_f0 : V2.frozen? ⟨w.heap.size, 0, none⟩ = false := by simp [World.frozen?, Z1.out]
  have Z1_f1 : V2.frozen? ⟨w.heap.size, 1, none⟩ = false := by simp [World.frozen?, Z1.out]
  have zZ1 := lt_of_heap Z1.out
  go_simp
  go_wp2_with fail
  refine (H3.out _).mono ?_
  rintro e V3 ⟨rfl, hb3⟩
  clear Z1_0 Z1_1 Z1_f0 Z1_f1 zZ1
  have B3 : Hid (Below w.heap.size w V3) := by first | exact Lib.hid ((B2.out).trans (hb3.mono (by have := B2.out.size; first | assumption | (simp <;> omega) | (simp; done)))) | exact Lib.hid (((B2.out).alloc (B2.out.size) _).trans (hb3.mono (by have := B2.out.size; first | assumption | (simp <;> omega) | (simp; done)))) | exact Lib.hid ((((B2.out).alloc (B2.out.size) _).alloc (by have := B2.out.size; simp <;> omega) _).trans (hb3.mono (by have := B2.out.size; first | assumption | (simp <;> omega) | (simp; done)))) | exact Lib.hid (((((B2.out).alloc (B2.out.size) _).alloc (by have := B2.out.size; simp <;> omega) _).alloc (by have := B2.out.size; simp <;> omega) _).trans (hb3.mono (by have := B2.out.size; first | assumption | (simp <;> omega) | (simp; done))))
  first | replace Z1 := Lib.hid (row_call hb3 Z1.out) | replace Z1 := Lib.hid (row_call hb3 (row_alloc Z1.out _)) | replace Z1 := Lib.hid (row_call hb3 (row_alloc (row_alloc Z1.out _) _)) | replace Z1 := Lib.hid (row_call hb3 (row_alloc (row_alloc (row_alloc Z1.out _) _) _))
  clear hb3
  have Z1_0 : V3.cell? ⟨w.heap.size, 0, none⟩ = some (.int .i64 0) := cell_of_row _ _ _ _ _ _ Z1.out
  have Z1_1 : V3.cell? ⟨w.heap.size, 1, none⟩ = some (.int .i64 0) := cell_of_row _ _ _ _ _ _ Z1.out
  have Z1_f0 : V3.frozen? ⟨w.heap.size, 0, none⟩ = false := by simp [World.frozen?, Z1.out]
  have Z1_f1 : V3.frozen? ⟨w.heap.size, 1, none⟩ = false := by simp [World.frozen?, Z1.out]
  have zZ1 := lt_of_heap Z1.out
  go_simp
  go_wp2
  refine shut_ret (v := .tuple #[.agg #[.int .i64 S, .int .i64 N], .int .i64 E]) (by simp [results, Tryd.results38, go_sem, zZ1, Z1_0, Z1_1]) rfl ⟨rfl, ?_⟩
  exact keep2 B3.out (by omega) _ _
end Go.Proofs.YtaoljjhhbmblhaaDoor
