/- Contract of the plain answer of layer 1: a row of bits as a number. -/
import Derived.Test.YthlbmeemdhofpaaRefA
import Derived.WalkKit
import Derived.ProofKit
import Derived.OpenShut
import Derived.Handy
import Derived.Outline
import Derived.Lib.Hide
import Derived.Test.YthlbmeemdhofpaaLotP
namespace Go.Proofs.Ythlbmeemdhofpaa
set_option linter.unusedVariables false
open Go.ChangeShapes Go.WideShapes Go.ChangeAt Go.RowKit

set_option maxHeartbeats 400000 in
set_option maxRecDepth 100000 in
theorem wide_any (f : Nat → Bool) (w : World) : Calls Try.prog 51 #[.agg (bv f)] w fun e w' => e = .returned (.agg #[.int .u64 (hi (val f 128)), .int .u64 (lo (val f 128))]) ∧ Below w.heap.size w w' := by
  go_enter Try.func51, Try.ntmps51
  refine wp_shut ?_
  go_wp2
  go_loopw [4] (fun s wr => ∃ i : Nat, i ≤ 64 ∧ s = .int .i64 i ∧ wr = (((w.alloc (Obj.cells (bv f) 74)).alloc (Obj.cells #[.int .u64 0, .int .u64 0] 60)).alloc (Obj.cells #[.int .u64 (val (fun k => f (64 + k)) i), .int .u64 (val f i)] 60))) (fun s _ => 64 - (intOf s).toNat)
  case atStart => exact ⟨0, by omega, rfl, rfl⟩
  case round =>
    obtain ⟨i, hii, rfl, rfl⟩ := hrel
    by_cases hlt : i < 64
    · have gf := bv_get f i (by omega)
      have gg := bv_get f (64 + i) (by omega)
      generalize hx : val f i = x at *
      generalize hy : val (fun k => f (64 + k)) i = y at *
      have HX := Lib.hid hx
      have HY := Lib.hid hy
      clear hx hy
      cases hfi : f i <;> cases hgi : f (64 + i) <;> rw [hfi] at gf <;> rw [hgi] at gg
      all_goals
        have HF := Lib.hid hfi
        have HG := Lib.hid hgi
        clear hfi hgi
        go_wp2
        go_roundw
        case rel =>
          refine ⟨i + 1, by omega, by go_num, ?_⟩
          have ex : val f (i + 1) = x + (if f i then 2 ^ i else 0) := by rw [← HX.out]; rfl
          have ey : val (fun k => f (64 + k)) (i + 1) = y + (if f (64 + i) then 2 ^ i else 0) := by rw [← HY.out]; rfl
          have lx : x < 2 ^ i := by rw [← HX.out]; exact val_lt _ _
          have ly : y < 2 ^ i := by rw [← HY.out]; exact val_lt _ _
          rw [ex, ey, HF.out, HG.out]
          simp only [or_pow x i lx hlt, or_pow y i ly hlt, if_true, Bool.false_eq_true, if_false, Nat.add_zero]
        case measure => simp [intOf]; omega
    · obtain rfl : i = 64 := by omega
      have HV := Lib.hid (val_split f 64 64)
      have HX := Lib.hid (val_lt f 64)
      have HY := Lib.hid (val_lt (fun k => f (64 + k)) 64)
      generalize val f 64 = x at *
      generalize val (fun k => f (64 + k)) 64 = y at *
      go_wp2
      refine shut_ret (v := .agg #[.int .u64 y, .int .u64 x]) (by simp [results, Try.results51, go_sem]) rfl ⟨?_, below3 _ _ _ _⟩
      have h1 := HV.out; have h2 := HX.out; have h3 := HY.out
      have e1 : hi (val f 128) = y := by rw [show (128 : Nat) = 64 + 64 from rfl, h1]; unfold hi; omega
      have e2 : lo (val f 128) = x := by rw [show (128 : Nat) = 64 + 64 from rfl, h1]; unfold lo; omega
      rw [e1, e2]
end Go.Proofs.Ythlbmeemdhofpaa
