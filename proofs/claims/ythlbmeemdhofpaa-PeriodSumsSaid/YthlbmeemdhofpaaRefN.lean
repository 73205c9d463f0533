/- Contract of the plain answer of layer 1: the product: the walk. -/
import Derived.Test.YthlbmeemdhofpaaRefM
import Derived.WalkKit
import Derived.ProofKit
import Derived.OpenShut
import Derived.Handy
import Derived.Outline
import Derived.Lib.Hide
import Derived.Test.YthlbmeemdhofpaaLotP
namespace Go.Proofs.Ythlbmeemdhofpaa
set_option linter.unusedVariables false
open Go.ChangeShapes Go.WideShapes Go.ChangeAt Go.RowKit

set_option maxHeartbeats 1600000 in
set_option maxRecDepth 100000 in
theorem refMul_any (a b : Nat) (ha : U a) (hb : U b) (w : World) :
    Calls Try.prog 44 #[.int .u64 a, .int .u64 b] w fun e w' => e = .returned (.agg #[.int .u64 (hi (a * b)), .int .u64 (lo (a * b))]) ∧ Below w.heap.size w w' := by
  have hz := zvBits
  go_enter Try.func44, Try.ntmps44
  refine wp_shut ?_
  go_wp2
  clear hz
  have HM0 : Hid (Mst w.heap.size w (((w.alloc (Obj.cells #[Value.int IntKind.u64 0, Value.int IntKind.u64 0] 60)).alloc (Obj.cells (bv fun x => false) 74)).alloc (Obj.cells (bv fun x => false) 74)) (fun _ => false) (fun _ => false)) :=
    ⟨by rw [heap_alloc_old _ _ (by simp only [World.size_alloc]; omega), heap_alloc_old _ _ (by simp only [World.size_alloc]; omega)]; exact heap_alloc_new w _, by simpa using heap_alloc2_old (w.alloc _) _ _, by simpa using heap_alloc_new ((w.alloc _).alloc _) _, below3 _ _ _ _⟩
  go_loopw [7] (fun s7 wr => ∃ i : Nat, i ≤ 64 ∧ s7 = .int .i64 i ∧ Mst w.heap.size w wr (fun _ => false) (lay a i)) (fun s7 _ => 64 - (intOf s7).toNat)
  case atStart => exact ⟨0, by omega, rfl, by rw [lay_zero]; exact HM0.out⟩
  case round =>
    obtain ⟨i, hii, rfl, hM⟩ := hrel
    clear HM0
    by_cases hlt : i < 64
    · have HM := Lib.hid hM
      have x2 := hM.cellD i (by omega)
      have xf := hM.freeD i
      have t1 := bit_test a i ha
      have HS := Lib.hid (lay_succ a i)
      clear hM
      go_wp2
      go_roundw
      case rel => exact ⟨i + 1, by omega, by go_num, by rw [← HS.out]; exact HM.out.setD i _⟩
      case measure => simp [intOf]; omega
    · obtain rfl : i = 64 := by omega
      have HM : Hid (Mst w.heap.size w wr (Nat.testBit (a * (b % 2 ^ 0))) (Nat.testBit (a * 2 ^ 0))) :=
        ⟨hM.z, by rw [show a * (b % 2 ^ 0) = 0 by rw [Nat.pow_zero, Nat.mod_one, Nat.mul_zero], show Nat.testBit 0 = fun _ => false by funext k; simp]; exact hM.c, by rw [Nat.pow_zero, Nat.mul_one, ← lay_end a ha]; exact hM.d, hM.b⟩
      clear hM
      go_wp2
      go_loopw [8] (fun s8 wx => ∃ i : Nat, i ≤ 64 ∧ s8 = .int .i64 i ∧ Mst w.heap.size w wx (Nat.testBit (a * (b % 2 ^ i))) (Nat.testBit (a * 2 ^ i))) (fun s8 _ => 64 - (intOf s8).toNat)
      case atStart => exact ⟨0, by omega, rfl, HM.out⟩
      case round =>
        obtain ⟨i, hii, rfl, hX⟩ := hrel
        clear HM
        by_cases hlt : i < 64
        · have t1 := bit_test b i hb
          have HD := Lib.hid (mov_end (a * 2 ^ i) (by have := mul_lt a (2 ^ (i + 1)) ha (i + 1) (by omega) (Nat.le_refl _); rw [Nat.pow_succ] at this; rw [Nat.mul_comm 2, Nat.mul_assoc]; exact this))
          have HN := Lib.hid (show a * 2 ^ (i + 1) = 2 * (a * 2 ^ i) by rw [Nat.pow_succ, ← Nat.mul_assoc, Nat.mul_comm])
          have hC := mul_lt a (b % 2 ^ i) ha i hii (Nat.le_of_lt (Nat.mod_lt _ (Nat.two_pow_pos i)))
          have hC2 := mul_lt a (b % 2 ^ (i + 1)) ha (i + 1) (by omega) (Nat.le_of_lt (Nat.mod_lt _ (Nat.two_pow_pos _)))
          have hDD := mul_lt a (2 ^ i) ha i hii (Nat.le_refl _)
          have hS := mul_step a b i
          generalize a * (b % 2 ^ i) = C at *
          generalize a * 2 ^ i = D at *
          by_cases hbit : b.testBit i = true
          · rw [hbit] at t1
            rw [if_pos hbit] at hS
            have hv : bv (sm C.testBit D.testBit false) = bv (Nat.testBit (C + D)) := by
              apply bv_num
              have h := sum_val C.testBit D.testBit false 128
              rw [val_testBit, val_testBit] at h
              have hs := val_lt (sm C.testBit D.testBit false) 128
              generalize val (sm C.testBit D.testBit false) 128 = q at *
              cases cr C.testBit D.testBit false 128 <;> simp at h <;> omega
            have HV := Lib.hid hv
            obtain ⟨CC, HC⟩ : ∃ CC, Hid (CC = a * (b % 2 ^ (i + 1))) := ⟨_, rfl⟩
            have HCC := Lib.hid (show C + D = CC by rw [HC.out, hS])
            clear hv hS hC hC2 hDD hbit
            have hgc := hX.c
            have hgd := hX.d
            have HM3 : Hid True := trivial
            go_wp2_with (first
              | (refine wpList_load_row (by rfl) 74 (.tmp 5) (by rfl) (w.heap.size + 1) (by rfl) 74 (bv C.testBit) (0, 0) _ hgc Try.underlying74 (by rfl) (infoBv _) ?_)
              | (refine wpList_load_row (by rfl) 74 (.tmp 6) (by rfl) (w.heap.size + 1 + 1) (by rfl) 74 (bv D.testBit) (0, 0) _ hgd Try.underlying74 (by rfl) (infoBv _) ?_; clear hgc hgd)
              | (go_at_call 50; refine (sum_any _ _ _ _).mono ?_; rintro e w1 ⟨rfl, hb1⟩; have h1 := hX.call hb1; have hgs := h1.c)
              | (refine wpList_store_row (by rfl) 74 (.tmp 5) (.tmp 36) (by rfl) (w.heap.size + 1) (bv (sm C.testBit D.testBit false)) (by rfl) (by rfl) 74 (bv C.testBit) hgs (infoBv _) (by rw [bv_size, bv_size]) (bv_one _) ?_; have hr := h1.rowC (sm C.testBit D.testBit false); generalize w1.setRow (w.heap.size + 1) (bv (sm C.testBit D.testBit false)) = w3 at *; replace HM3 := Lib.hid (hr.congr (HV.out.trans (by rw [HCC.out])) rfl); clear hr h1 hgs hb1 hX))
            go_loopw [9] (fun s9 wx => ∃ k : Nat, k ≤ 127 ∧ s9 = .int .i64 k ∧ Mst w.heap.size w wx (Nat.testBit CC) (mov D k)) (fun s9 _ => (intOf s9).toNat)
            case atStart => exact ⟨127, by omega, rfl, HM3.out.congr rfl (mov_start D).symm⟩
            case round =>
              obtain ⟨k, hk, rfl, hX⟩ := hrel
              clear HM3
              by_cases hk0 : 0 < k
              · have HX := Lib.hid hX
                have x1 := hX.cellD (k - 1) (by omega)
                have x2 := hX.cellD k (by omega)
                have xf := hX.freeD k
                have HS := Lib.hid (mov_step D k hk0)
                have ei : ((k : Int) - 1).toNat = k - 1 := by omega
                have ej : (0 : Int) < (k : Int) := by omega
                clear hX
                go_wp2
                go_roundw
                case rel => exact ⟨k - 1, by omega, congrArg (Value.int .i64) (by omega), by rw [← HS.out]; exact HX.out.setD k _⟩
                case measure => simp [intOf]; omega
              · obtain rfl : k = 0 := by omega
                have HX := Lib.hid hX
                have x2 := hX.cellD 0 (by omega)
                have xf := hX.freeD 0
                clear hX
                go_wp2
                go_roundw
                case rel => first | exact ⟨i + 1, by omega, by go_num, by rw [HN.out]; exact (HX.out.setD 0 false).congr (by rw [HC.out]) HD.out⟩ | ((repeat apply Exists.intro); exact ⟨⟨i + 1, by omega, by go_num, by rw [HN.out]; exact (HX.out.setD 0 false).congr (by rw [HC.out]) HD.out⟩, rfl⟩)
                case measure => simp [intOf]; omega
          · rw [Bool.not_eq_true] at hbit
            rw [hbit] at t1
            rw [if_neg (by rw [hbit]; decide)] at hS
            obtain ⟨CC, HC⟩ : ∃ CC, Hid (CC = a * (b % 2 ^ (i + 1))) := ⟨_, rfl⟩
            have HM3 := Lib.hid (hX.congr (show bv C.testBit = bv CC.testBit by rw [HC.out, hS, Nat.add_zero]) rfl)
            clear hS hC hC2 hDD hbit hX
            go_wp2
            go_loopw [9] (fun s9 wx => ∃ k : Nat, k ≤ 127 ∧ s9 = .int .i64 k ∧ Mst w.heap.size w wx (Nat.testBit CC) (mov D k)) (fun s9 _ => (intOf s9).toNat)
            case atStart => exact ⟨127, by omega, rfl, HM3.out.congr rfl (mov_start D).symm⟩
            case round =>
              obtain ⟨k, hk, rfl, hX⟩ := hrel
              clear HM3
              by_cases hk0 : 0 < k
              · have HX := Lib.hid hX
                have x1 := hX.cellD (k - 1) (by omega)
                have x2 := hX.cellD k (by omega)
                have xf := hX.freeD k
                have HS := Lib.hid (mov_step D k hk0)
                have ei : ((k : Int) - 1).toNat = k - 1 := by omega
                have ej : (0 : Int) < (k : Int) := by omega
                clear hX
                go_wp2
                go_roundw
                case rel => exact ⟨k - 1, by omega, congrArg (Value.int .i64) (by omega), by rw [← HS.out]; exact HX.out.setD k _⟩
                case measure => simp [intOf]; omega
              · obtain rfl : k = 0 := by omega
                have HX := Lib.hid hX
                have x2 := hX.cellD 0 (by omega)
                have xf := hX.freeD 0
                clear hX
                go_wp2
                go_roundw
                case rel => first | exact ⟨i + 1, by omega, by go_num, by rw [HN.out]; exact (HX.out.setD 0 false).congr (by rw [HC.out]) HD.out⟩ | ((repeat apply Exists.intro); exact ⟨⟨i + 1, by omega, by go_num, by rw [HN.out]; exact (HX.out.setD 0 false).congr (by rw [HC.out]) HD.out⟩, rfl⟩)
                case measure => simp [intOf]; omega
        · obtain rfl : i = 64 := by omega
          have hm : b % 2 ^ 64 = b := Nat.mod_eq_of_lt hb
          rw [hm] at hX
          have hl := mul_lt a b ha 64 (by omega) (Nat.le_of_lt hb)
          have hval : val (Nat.testBit (a * b)) 128 = a * b := by rw [val_testBit]; exact Nat.mod_eq_of_lt hl
          have HX := Lib.hid hX
          have HV := Lib.hid hval
          have hgc := hX.c
          clear hX hl hm hval
          go_wp2_with (first
            | (refine wpList_load_row (by rfl) 74 (.tmp 5) (by rfl) (w.heap.size + 1) (by rfl) 74 (bv (Nat.testBit (a * b))) (0, 0) _ hgc Try.underlying74 (by rfl) (infoBv _) ?_; clear hgc)
            | (go_at_call 51; refine (wide_any _ _).mono ?_; rintro e w1 ⟨rfl, hb1⟩; have h1 := HX.out.call hb1; have z0 := h1.cellZ 0 (by omega); have z1 := h1.cellZ 1 (by omega); have f0 := h1.freeZ 0; have f1 := h1.freeZ 1; have HB := Lib.hid h1.b; clear h1 hb1))
          refine shut_ret (v := .agg #[.int .u64 (hi (a * b)), .int .u64 (lo (a * b))]) (by simp [results, Try.results44, go_sem, z0, z1, HV.out]) rfl ⟨rfl, ?_⟩
          exact (HB.out.setCell (Nat.le_refl _) _).setCell (Nat.le_refl _) _
end Go.Proofs.Ythlbmeemdhofpaa
