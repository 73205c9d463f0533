/- Contract of the plain answer of layer 1: the sum of two rows of bits. -/
import Derived.Test.YthlbmeemdhofpaaRefA
import Derived.WalkKit
import Derived.ProofKit
import Derived.OpenShut
import Derived.Handy
import Derived.Outline
import Derived.Lib.Hide
import Derived.Laws.Rows
import Derived.Deep.WholeRow
import Derived.Test.YthlbmeemdhofpaaLotP
namespace Go.Proofs.Ythlbmeemdhofpaa
set_option linter.unusedVariables false
open Go.ChangeShapes Go.WideShapes Go.ChangeAt Go.RowKit

/-- The sum's bits while they are laid. -/
def smd (f g : Nat → Bool) (c : Bool) (i : Nat) : Nat → Bool := fun k => decide (k < i) && sm f g c k
theorem smd_zero (f g : Nat → Bool) (c : Bool) : smd f g c 0 = fun _ => false := by funext k; simp [smd]
theorem smd_succ (f g : Nat → Bool) (c : Bool) (i : Nat) : upd (smd f g c i) i (sm f g c i) = smd f g c (i + 1) := by
  funext k
  simp only [upd, smd]
  by_cases h2 : k = i
  · subst h2; simp
  · rw [if_neg h2, show decide (k < i) = decide (k < i + 1) by rw [decide_eq_decide]; omega]
theorem smd_end (f g : Nat → Bool) (c : Bool) : bv (smd f g c 128) = bv (sm f g c) := bv_congr fun k hk => by simp [smd, hk]

set_option maxHeartbeats 1600000 in
set_option maxRecDepth 100000 in
theorem sum_any (f g : Nat → Bool) (c : Bool) (w : World) : Calls Try.prog 50 #[.agg (bv f), .agg (bv g), .bool c] w fun e w' => e = .returned (.tuple #[.agg (bv (sm f g c)), .bool (cr f g c 128)]) ∧ Below w.heap.size w w' := by
  have hz := zvBits
  have hs := bv_set
  have HE := Lib.hid (smd_end f g c)
  have H0 := Lib.hid (smd_zero f g c)
  go_enter Try.func50, Try.ntmps50
  refine wp_shut ?_
  go_wp2
  clear hz
  go_loopw [2, 9] (fun x s wr => ∃ i : Nat, i ≤ 128 ∧ s = .int .i64 i ∧ x = .bool (cr f g c i) ∧ wr = ((((w.alloc (Obj.cells (bv f) 74)).alloc (Obj.cells (bv g) 74)).alloc (Obj.cells (bv fun x => false) 74)).alloc (Obj.cells (bv (smd f g c i)) 74))) (fun _ s _ => 128 - (intOf s).toNat)
  case atStart => exact ⟨0, by omega, rfl, rfl, by rw [H0.out]⟩
  case round =>
    obtain ⟨i, hi, rfl, rfl, rfl⟩ := hrel
    by_cases hlt : i < 128
    · have HS := Lib.hid (smd_succ f g c i)
      have HR := Lib.hid (show cr f g c (i + 1) = ((f i && g i) || ((f i || g i) && cr f g c i)) from rfl)
      have HM := Lib.hid (show sm f g c i = ((f i ^^ g i) ^^ cr f g c i) from rfl)
      have gf := bv_get f i (by omega)
      have gg := bv_get g i (by omega)
      have g1 := bv_get (smd f g c i) i (by omega)
      generalize smd f g c i = t at *
      generalize cr f g c i = x at *
      have e1 : (bits .and .i64 1 1 == 1) = true := by decide
      have e2 : (bits .and .i64 2 1 == 1) = false := by decide
      have e3 : (bits .and .i64 3 1 == 1) = true := by decide
      have e0 : (bits .and .i64 0 1 == 1) = false := by decide
      cases hfi : f i <;> cases hgi : g i <;> cases x <;> rw [hfi] at gf <;> rw [hgi] at gg
      all_goals
        have HF := Lib.hid hfi
        have HG := Lib.hid hgi
        clear hfi hgi
        go_wp2
        go_roundw
        case rel => exact ⟨i + 1, by omega, by go_num, by rw [HR.out, HF.out, HG.out]; rfl, by rw [← HS.out, HM.out, HF.out, HG.out]; rfl⟩
        case measure => simp [intOf]; omega
    · obtain rfl : i = 128 := by omega
      rw [HE.out]
      obtain ⟨h, HF⟩ : ∃ h, Hid (sm f g c = h) := ⟨_, rfl⟩
      obtain ⟨x, HX⟩ : ∃ x, Hid (cr f g c 128 = x) := ⟨_, rfl⟩
      rw [HX.out]
      rw [HF.out]
      have hg1 : ((((w.alloc (Obj.cells (bv f) 74)).alloc (Obj.cells (bv g) 74)).alloc (Obj.cells (bv fun x => false) 74)).alloc (Obj.cells (bv h) 74)).heap[w.heap.size + 1 + 1 + 1]? = some (.cells (bv h) 74) := by
        simpa using heap_alloc_new (((w.alloc (Obj.cells (bv f) 74)).alloc (Obj.cells (bv g) 74)).alloc (Obj.cells (bv fun x => false) 74)) (Obj.cells (bv h) 74)
      have hg2 : ((((w.alloc (Obj.cells (bv f) 74)).alloc (Obj.cells (bv g) 74)).alloc (Obj.cells (bv fun x => false) 74)).alloc (Obj.cells (bv h) 74)).heap[w.heap.size + 1 + 1]? = some (.cells (bv fun x => false) 74) := by
        simpa using heap_alloc2_old ((w.alloc (Obj.cells (bv f) 74)).alloc (Obj.cells (bv g) 74)) (Obj.cells (bv fun x => false) 74) (Obj.cells (bv h) 74)
      go_wp2_with (first | (refine wpList_load_row (by rfl) 74 (.tmp 8) (by rfl) (w.heap.size + 1 + 1 + 1) (by rfl) 74 (bv h) (0, 0) _ hg1 Try.underlying74 (by rfl) (infoBv h) ?_) | (refine wpList_store_row (by rfl) 74 (.tmp 6) (.tmp 35) (by rfl) (w.heap.size + 1 + 1) (bv h) (by rfl) (by rfl) 74 (bv fun _ => false) hg2 (infoBv h) (by rw [bv_size, bv_size]) (bv_one h) ?_; rw [setRow_third]; clear hg1 hg2 hs))
      exact shut_ret (results_cell_row2 rfl _ _ (w.heap.size + 1 + 1) 74 (bv h) (0, 0) _ rfl (by simpa using heap_alloc2_old ((w.alloc _).alloc _) (Obj.cells (bv h) 74) (Obj.cells (bv h) 74)) Try.underlying74 rfl (infoBv h)) rfl ⟨by rw [HX.out, ← HF.out]; rfl, below4 _ _ _ _ _⟩
end Go.Proofs.Ythlbmeemdhofpaa
