/- Several texts in one: RefA, RefB, RefC, RefD, RefM, RefP, RefE, RefF, RefG. -/
import Derived.Test.YtoopbgpoelpjfaaDoorZPkg1
import Derived.Test.YtoopbgpoelpjfaaDoorRows
import Derived.WalkKit
import Derived.ProofKit
import Derived.OpenShut
import Derived.Handy
import Derived.Outline
import Derived.Lib.Hide
import Derived.Laws.Rows
import Derived.Deep.WholeRow
import Derived.Deep.RegionHeld3
import Derived.Deep.DeepCutAuto
namespace Go.Proofs.YtoopbgpoelpjfaaDoor
set_option linter.unusedVariables false
open Go.ChangeShapes Go.WideShapes Go.ChangeAt Go.RowKit
theorem bcell {W w1 : World} (hb : Below W.heap.size W w1) : (∀ b o, b < W.heap.size → w1.cell? ⟨b, o, none⟩ = W.cell? ⟨b, o, none⟩) ∧ (∀ b o, b < W.heap.size → w1.frozen? ⟨b, o, none⟩ = W.frozen? ⟨b, o, none⟩) :=
  ⟨fun b o h => hb.cell (p := ⟨b, o, none⟩) h, fun b o h => hb.frozen (p := ⟨b, o, none⟩) h⟩
theorem zvBits (w : World) : (zeroValue 83).run Tryd.prog w = .ok (.agg (bv fun _ => false)) w := by kernel_rfl
theorem infoBits : (Tryd.prog.info? 83).map (·.size) = some 128 := by kernel_rfl
theorem World.setRow_past (w : World) (o : Obj) (n : Nat) (c : Array Value) (hn : n < w.heap.size) : (w.alloc o).setRow n c = (w.setRow n c).alloc o := by
  simp only [World.setRow, World.alloc]
  congr 1
  apply Array.ext_getElem?
  intro i
  by_cases h : n = i
  · subst h; simp [Array.getElem?_push, Array.getElem?_modify, show ¬ n = w.heap.size by omega]
  · simp [Array.getElem?_push, Array.getElem?_modify, h]
theorem setRow_mid (w : World) (A C : Obj) (c c' : Array Value) (t : TypeId) : (((w.alloc A).alloc (.cells c t)).alloc C).setRow (w.heap.size + 1) c' = ((w.alloc A).alloc (.cells c' t)).alloc C := by
  rw [World.setRow_past _ _ _ _ (by simp)]
  have := World.setRow_alloc_new (w.alloc A) c c' t
  rw [World.size_alloc] at this
  rw [this]
theorem setRow_last (w : World) (A : Obj) (c c' : Array Value) (t : TypeId) : ((w.alloc A).alloc (.cells c t)).setRow (w.heap.size + 1) c' = (w.alloc A).alloc (.cells c' t) := by
  have := World.setRow_alloc_new (w.alloc A) c c' t
  rw [World.size_alloc] at this
  rw [this]
theorem setRow_third (w : World) (A B D : Obj) (c c' : Array Value) (t : TypeId) : ((((w.alloc A).alloc B).alloc (.cells c t)).alloc D).setRow (w.heap.size + 1 + 1) c' = (((w.alloc A).alloc B).alloc (.cells c' t)).alloc D := by
  have := setRow_mid (w.alloc A) B D c c' t
  rw [World.size_alloc] at this
  rw [this]
theorem below2 (w : World) (o1 o2 : Obj) : Below w.heap.size w ((w.alloc o1).alloc o2) :=
  ((Below.refl _ _).alloc (Nat.le_refl _) o1).alloc (by simp) o2
theorem below4 (w : World) (o1 o2 o3 o4 : Obj) : Below w.heap.size w ((((w.alloc o1).alloc o2).alloc o3).alloc o4) :=
  ((((Below.refl _ _).alloc (Nat.le_refl _) o1).alloc (by simp) o2).alloc (by simp; omega) o3).alloc (by simp; omega) o4
theorem below3 (w : World) (o1 o2 o3 : Obj) : Below w.heap.size w (((w.alloc o1).alloc o2).alloc o3) :=
  (((Below.refl _ _).alloc (Nat.le_refl _) o1).alloc (by simp) o2).alloc (by simp; omega) o3
theorem bv_one (f : Nat → Bool) : (bv f).all (·.oneCell') = true := by
  rw [Array.all_eq_true]
  intro i hi
  have := bv_get f i (by rw [bv_size] at hi; exact hi)
  rw [Array.getElem?_eq_getElem hi] at this
  simp at this
  rw [this]; rfl
theorem infoBv (f : Nat → Bool) : (Tryd.prog.info? 83).map (·.size) = some (bv f).size := by rw [infoBits, bv_size]
def laid (h l i : Nat) : Nat → Bool := fun k => if k < 64 then decide (k < i) && l.testBit k else decide (k - 64 < i) && h.testBit (k - 64)
theorem laid_zero (h l : Nat) : laid h l 0 = fun _ => false := by funext k; simp [laid]
theorem laid_succ (h l i : Nat) (hi : i < 64) : upd (upd (laid h l i) i (l.testBit i)) (64 + i) (h.testBit i) = laid h l (i + 1) := by
  funext k
  simp only [upd, laid]
  by_cases h1 : k = 64 + i
  · subst h1; simp; omega
  · by_cases h2 : k = i
    · subst h2; simp [hi]
    · rw [if_neg h1, if_neg h2]
      split
      · rw [show decide (k < i) = decide (k < i + 1) by rw [decide_eq_decide]; omega]
      · rw [show decide (k - 64 < i) = decide (k - 64 < i + 1) by rw [decide_eq_decide]; omega]
theorem laid_end (h l : Nat) (hl : U l) : bv (laid h l 64) = bv (num h l).testBit := by
  apply bv_congr
  intro k hk
  unfold U at *
  have e : num h l = 2 ^ 64 * h + l := by unfold num; omega
  rw [e]
  unfold laid
  by_cases h1 : k < 64
  · simp [h1, Nat.testBit_two_pow_mul_add h (show l < 2 ^ 64 by omega)]
  · simp [h1, Nat.testBit_two_pow_mul_add h (show l < 2 ^ 64 by omega)]
    intro h2; omega
set_option maxHeartbeats 400000 in
set_option maxRecDepth 100000 in
theorem bits_any (h l : Nat) (hh : U h) (hl : U l) (w : World) : Calls Tryd.prog 58 #[.agg #[.int .u64 h, .int .u64 l]] w fun e w' => e = .returned (.agg (bv (num h l).testBit)) ∧ Below w.heap.size w w' := by
  have hz := zvBits
  have hs := bv_set
  have HE := Lib.hid (laid_end h l hl)
  have H0 := Lib.hid (laid_zero h l)
  go_enter Tryd.func58, Tryd.ntmps58
  refine wp_shut ?_
  go_wp2
  clear hz
  go_loopw [4] (fun s wr => ∃ i : Nat, i ≤ 64 ∧ s = .int .i64 i ∧ wr = ((w.alloc (Obj.cells #[Value.int IntKind.u64 ↑h, Value.int IntKind.u64 ↑l] 66)).alloc (Obj.cells (bv fun x => false) 83)).alloc (Obj.cells (bv (laid h l i)) 83)) (fun s _ => 64 - (intOf s).toNat)
  case atStart => exact ⟨0, by omega, rfl, by rw [H0.out]⟩
  case round =>
    obtain ⟨i, hi, rfl, rfl⟩ := hrel
    by_cases hlt : i < 64
    · have HS := Lib.hid (laid_succ h l i hlt)
      generalize laid h l i = f at *
      have g1 := bv_get f i (by omega)
      have g2 := fun b => bv_get (upd f i b) (64 + i) (by omega)
      have t1 := bit_test l i hl
      have t2 := bit_test h i hh
      go_wp2
      go_roundw
      case rel => exact ⟨i + 1, by omega, by go_num, by rw [HS.out]⟩
      case measure => simp [intOf]; omega
    · obtain rfl : i = 64 := by omega
      rw [HE.out]
      obtain ⟨f, HF⟩ : ∃ f, Hid ((num h l).testBit = f) := ⟨_, rfl⟩
      rw [HF.out]
      have hg1 : (((w.alloc (Obj.cells #[Value.int IntKind.u64 ↑h, Value.int IntKind.u64 ↑l] 66)).alloc (Obj.cells (bv fun x => false) 83)).alloc (Obj.cells (bv f) 83)).heap[w.heap.size + 1 + 1]? = some (.cells (bv f) 83) := by
        simpa using heap_alloc_new ((w.alloc (Obj.cells #[Value.int IntKind.u64 ↑h, Value.int IntKind.u64 ↑l] 66)).alloc (Obj.cells (bv fun x => false) 83)) (Obj.cells (bv f) 83)
      have hg2 : (((w.alloc (Obj.cells #[Value.int IntKind.u64 ↑h, Value.int IntKind.u64 ↑l] 66)).alloc (Obj.cells (bv fun x => false) 83)).alloc (Obj.cells (bv f) 83)).heap[w.heap.size + 1]? = some (.cells (bv fun x => false) 83) := by
        simpa using heap_alloc2_old (w.alloc (Obj.cells #[Value.int IntKind.u64 ↑h, Value.int IntKind.u64 ↑l] 66)) (Obj.cells (bv fun x => false) 83) (Obj.cells (bv f) 83)
      go_wp2_with (first | (refine wpList_load_row (by rfl) 83 (.tmp 3) (by rfl) (w.heap.size + 1 + 1) (by rfl) 83 (bv f) (0, 0) _ hg1 Tryd.underlying83 (by rfl) (infoBv f) ?_) | (refine wpList_store_row (by rfl) 83 (.tmp 2) (.tmp 28) (by rfl) (w.heap.size + 1) (bv f) (by rfl) (by rfl) 83 (bv fun _ => false) hg2 (infoBv f) (by rw [bv_size, bv_size]) (bv_one f) ?_; rw [setRow_mid]; clear hg1 hg2 hs))
      exact shut_ret (results_cell_row rfl _ _ (w.heap.size + 1) 83 (bv f) (0, 0) _ rfl (by simpa using heap_alloc2_old (w.alloc _) (Obj.cells (bv f) 83) (Obj.cells (bv f) 83)) Tryd.underlying83 rfl (infoBv f)) rfl ⟨by rw [← HF.out], below3 _ _ _ _⟩
def turnd (f : Nat → Bool) (i : Nat) : Nat → Bool := fun k => if k < i then !f k else f k
theorem turnd_zero (f : Nat → Bool) : turnd f 0 = f := by funext k; simp [turnd]
theorem turnd_at (f : Nat → Bool) (i : Nat) : turnd f i i = f i := by simp [turnd]
theorem turnd_succ (f : Nat → Bool) (i : Nat) : upd (turnd f i) i (!f i) = turnd f (i + 1) := by
  funext k
  simp only [upd, turnd]
  by_cases h2 : k = i
  · subst h2; simp
  · rw [if_neg h2]
    by_cases h3 : k < i
    · rw [if_pos h3, if_pos (by omega)]
    · rw [if_neg h3, if_neg (by omega)]
theorem turnd_end (f : Nat → Bool) : bv (turnd f 128) = bv fun k => !f k := bv_congr fun k hk => by simp [turnd, hk]
set_option maxHeartbeats 400000 in
set_option maxRecDepth 100000 in
theorem turned_any (f : Nat → Bool) (w : World) : Calls Tryd.prog 74 #[.agg (bv f)] w fun e w' => e = .returned (.agg (bv fun k => !f k)) ∧ Below w.heap.size w w' := by
  have hz := zvBits
  have hs := bv_set
  have HE := Lib.hid (turnd_end f)
  have H0 := Lib.hid (turnd_zero f)
  go_enter Tryd.func74, Tryd.ntmps74
  refine wp_shut ?_
  go_wp2
  clear hz
  go_loopw [3] (fun s wr => ∃ i : Nat, i ≤ 128 ∧ s = .int .i64 i ∧ wr = ((w.alloc (Obj.cells (bv (turnd f i)) 83)).alloc (Obj.cells (bv fun x => false) 83))) (fun s _ => 128 - (intOf s).toNat)
  case atStart => exact ⟨0, by omega, rfl, by rw [H0.out]⟩
  case round =>
    obtain ⟨i, hi, rfl, rfl⟩ := hrel
    by_cases hlt : i < 128
    · have HS := Lib.hid (turnd_succ f i)
      have ga := turnd_at f i
      have g1 := bv_get (turnd f i) i (by omega)
      rw [ga] at g1
      clear ga
      generalize turnd f i = t at *
      go_wp2
      go_roundw
      case rel => exact ⟨i + 1, by omega, by go_num, by rw [HS.out]⟩
      case measure => simp [intOf]; omega
    · obtain rfl : i = 128 := by omega
      rw [HE.out]
      obtain ⟨g, HF⟩ : ∃ g, Hid ((fun k => !f k) = g) := ⟨_, rfl⟩
      rw [HF.out]
      have hg1 : ((w.alloc (Obj.cells (bv g) 83)).alloc (Obj.cells (bv fun x => false) 83)).heap[w.heap.size]? = some (.cells (bv g) 83) := by
        simpa using heap_alloc2_old w (Obj.cells (bv g) 83) (Obj.cells (bv fun x => false) 83)
      have hg2 : ((w.alloc (Obj.cells (bv g) 83)).alloc (Obj.cells (bv fun x => false) 83)).heap[w.heap.size + 1]? = some (.cells (bv fun x => false) 83) := by
        simpa using heap_alloc_new (w.alloc (Obj.cells (bv g) 83)) (Obj.cells (bv fun x => false) 83)
      go_wp2_with (first | (refine wpList_load_row (by rfl) 83 (.tmp 1) (by rfl) w.heap.size (by rfl) 83 (bv g) (0, 0) _ hg1 Tryd.underlying83 (by rfl) (infoBv g) ?_) | (refine wpList_store_row (by rfl) 83 (.tmp 2) (.tmp 14) (by rfl) (w.heap.size + 1) (bv g) (by rfl) (by rfl) 83 (bv fun _ => false) hg2 (infoBv g) (by rw [bv_size, bv_size]) (bv_one g) ?_; rw [setRow_last]; clear hg1 hg2 hs))
      exact shut_ret (results_cell_row rfl _ _ (w.heap.size + 1) 83 (bv g) (0, 0) _ rfl (by simpa using heap_alloc_new (w.alloc (Obj.cells (bv g) 83)) (Obj.cells (bv g) 83)) Tryd.underlying83 rfl (infoBv g)) rfl ⟨by rw [← HF.out], below2 _ _ _⟩
theorem results_cell_row2 {P : Program} {fn : Func} {p q : Tmp} {ty : TypeId} (h : fn.results = #[.cell p ty, .tmp q]) (tmps : Array Value) (w : World) (g : Nat) (t : TypeId) (cs : Array Value) (fr : Nat × Nat) (d : TypeDesc)
    (hp : tmps.getD p undef = .pointer (some ⟨g, 0, none⟩)) (hg : w.heap[g]? = some (.cells cs t fr))
    (hu : P.underlying ty = some d) (hd : (match d with | .struct _ | .array _ _ => true | _ => false) = true) (hi : (P.info? ty).map (·.size) = some cs.size) :
    (results fn tmps).run P w = .ok (.tuple #[.agg cs, tmps.getD q undef]) w := by
  have hp' : tmps[p]?.getD undef = .pointer (some ⟨g, 0, none⟩) := by simpa using hp
  simp [results, h, hp', asAddr, run_loadVar_row w g t ty cs fr d hg hu hd hi]
end Go.Proofs.YtoopbgpoelpjfaaDoor
namespace Go.Proofs.YtoopbgpoelpjfaaDoor
set_option linter.unusedVariables false
open Go.ChangeShapes Go.WideShapes Go.ChangeAt Go.RowKit
def smd (f g : Nat → Bool) (c : Bool) (i : Nat) : Nat → Bool := fun k => decide (k < i) && sm f g c k
theorem smd_zero (f g : Nat → Bool) (c : Bool) : smd f g c 0 = fun _ => false := by funext k; simp [smd]
theorem smd_succ (f g : Nat → Bool) (c : Bool) (i : Nat) : upd (smd f g c i) i (sm f g c i) = smd f g c (i + 1) := by
  funext k
  simp only [upd, smd]
  by_cases h2 : k = i
  · subst h2; simp
  · rw [if_neg h2, show decide (k < i) = decide (k < i + 1) by rw [decide_eq_decide]; omega]
theorem smd_end (f g : Nat → Bool) (c : Bool) : bv (smd f g c 128) = bv (sm f g c) := bv_congr fun k hk => by simp [smd, hk]
set_option maxHeartbeats 1600000 in
set_option maxRecDepth 100000 in
theorem sum_any (f g : Nat → Bool) (c : Bool) (w : World) : Calls Tryd.prog 57 #[.agg (bv f), .agg (bv g), .bool c] w fun e w' => e = .returned (.tuple #[.agg (bv (sm f g c)), .bool (cr f g c 128)]) ∧ Below w.heap.size w w' := by
  have hz := zvBits
  have hs := bv_set
  have HE := Lib.hid (smd_end f g c)
  have H0 := Lib.hid (smd_zero f g c)
  go_enter Tryd.func57, Tryd.ntmps57
  refine wp_shut ?_
  go_wp2
  clear hz
  go_loopw [2, 9] (fun x s wr => ∃ i : Nat, i ≤ 128 ∧ s = .int .i64 i ∧ x = .bool (cr f g c i) ∧ wr = ((((w.alloc (Obj.cells (bv f) 83)).alloc (Obj.cells (bv g) 83)).alloc (Obj.cells (bv fun x => false) 83)).alloc (Obj.cells (bv (smd f g c i)) 83))) (fun _ s _ => 128 - (intOf s).toNat)
  case atStart => exact ⟨0, by omega, rfl, rfl, by rw [H0.out]⟩
  case round =>
    obtain ⟨i, hi, rfl, rfl, rfl⟩ := hrel
    by_cases hlt : i < 128
    · have HS := Lib.hid (smd_succ f g c i)
      have HR := Lib.hid (show cr f g c (i + 1) = ((f i && g i) || ((f i || g i) && cr f g c i)) from rfl)
      have HM := Lib.hid (show sm f g c i = ((f i ^^ g i) ^^ cr f g c i) from rfl)
      have gf := bv_get f i (by omega)
      have gg := bv_get g i (by omega)
      have g1 := bv_get (smd f g c i) i (by omega)
      generalize smd f g c i = t at *
      generalize cr f g c i = x at *
      have e1 : (bits .and .i64 1 1 == 1) = true := by decide
      have e2 : (bits .and .i64 2 1 == 1) = false := by decide
      have e3 : (bits .and .i64 3 1 == 1) = true := by decide
      have e0 : (bits .and .i64 0 1 == 1) = false := by decide
      cases hfi : f i <;> cases hgi : g i <;> cases x <;> rw [hfi] at gf <;> rw [hgi] at gg
      all_goals
        have HF := Lib.hid hfi
        have HG := Lib.hid hgi
        clear hfi hgi
        go_wp2
        go_roundw
        case rel => exact ⟨i + 1, by omega, by go_num, by rw [HR.out, HF.out, HG.out]; rfl, by rw [← HS.out, HM.out, HF.out, HG.out]; rfl⟩
        case measure => simp [intOf]; omega
    · obtain rfl : i = 128 := by omega
      rw [HE.out]
      obtain ⟨h, HF⟩ : ∃ h, Hid (sm f g c = h) := ⟨_, rfl⟩
      obtain ⟨x, HX⟩ : ∃ x, Hid (cr f g c 128 = x) := ⟨_, rfl⟩
      rw [HX.out]
      rw [HF.out]
      have hg1 : ((((w.alloc (Obj.cells (bv f) 83)).alloc (Obj.cells (bv g) 83)).alloc (Obj.cells (bv fun x => false) 83)).alloc (Obj.cells (bv h) 83)).heap[w.heap.size + 1 + 1 + 1]? = some (.cells (bv h) 83) := by
        simpa using heap_alloc_new (((w.alloc (Obj.cells (bv f) 83)).alloc (Obj.cells (bv g) 83)).alloc (Obj.cells (bv fun x => false) 83)) (Obj.cells (bv h) 83)
      have hg2 : ((((w.alloc (Obj.cells (bv f) 83)).alloc (Obj.cells (bv g) 83)).alloc (Obj.cells (bv fun x => false) 83)).alloc (Obj.cells (bv h) 83)).heap[w.heap.size + 1 + 1]? = some (.cells (bv fun x => false) 83) := by
        simpa using heap_alloc2_old ((w.alloc (Obj.cells (bv f) 83)).alloc (Obj.cells (bv g) 83)) (Obj.cells (bv fun x => false) 83) (Obj.cells (bv h) 83)
      go_wp2_with (first | (refine wpList_load_row (by rfl) 83 (.tmp 8) (by rfl) (w.heap.size + 1 + 1 + 1) (by rfl) 83 (bv h) (0, 0) _ hg1 Tryd.underlying83 (by rfl) (infoBv h) ?_) | (refine wpList_store_row (by rfl) 83 (.tmp 6) (.tmp 35) (by rfl) (w.heap.size + 1 + 1) (bv h) (by rfl) (by rfl) 83 (bv fun _ => false) hg2 (infoBv h) (by rw [bv_size, bv_size]) (bv_one h) ?_; rw [setRow_third]; clear hg1 hg2 hs))
      exact shut_ret (results_cell_row2 rfl _ _ (w.heap.size + 1 + 1) 83 (bv h) (0, 0) _ rfl (by simpa using heap_alloc2_old ((w.alloc _).alloc _) (Obj.cells (bv h) 83) (Obj.cells (bv h) 83)) Tryd.underlying83 rfl (infoBv h)) rfl ⟨by rw [HX.out, ← HF.out]; rfl, below4 _ _ _ _ _⟩
end Go.Proofs.YtoopbgpoelpjfaaDoor
namespace Go.Proofs.YtoopbgpoelpjfaaDoor
set_option linter.unusedVariables false
open Go.ChangeShapes Go.WideShapes Go.ChangeAt Go.RowKit
set_option maxHeartbeats 400000 in
set_option maxRecDepth 100000 in
theorem wide_any (f : Nat → Bool) (w : World) : Calls Tryd.prog 59 #[.agg (bv f)] w fun e w' => e = .returned (.agg #[.int .u64 (hi (val f 128)), .int .u64 (lo (val f 128))]) ∧ Below w.heap.size w w' := by
  go_enter Tryd.func59, Tryd.ntmps59
  refine wp_shut ?_
  go_wp2
  go_loopw [4] (fun s wr => ∃ i : Nat, i ≤ 64 ∧ s = .int .i64 i ∧ wr = (((w.alloc (Obj.cells (bv f) 83)).alloc (Obj.cells #[.int .u64 0, .int .u64 0] 66)).alloc (Obj.cells #[.int .u64 (val (fun k => f (64 + k)) i), .int .u64 (val f i)] 66))) (fun s _ => 64 - (intOf s).toNat)
  case atStart => exact ⟨0, by omega, rfl, rfl⟩
  case round =>
    obtain ⟨i, hii, rfl, rfl⟩ := hrel
    by_cases hlt : i < 64
    · have gf := bv_get f i (by omega)
      have gg := bv_get f (64 + i) (by omega)
      generalize hx : val f i = x at *
      generalize hy : val (fun k => f (64 + k)) i = y at *
      have HX := Lib.hid hx
      have HY := Lib.hid hy
      clear hx hy
      cases hfi : f i <;> cases hgi : f (64 + i) <;> rw [hfi] at gf <;> rw [hgi] at gg
      all_goals
        have HF := Lib.hid hfi
        have HG := Lib.hid hgi
        clear hfi hgi
        go_wp2
        go_roundw
        case rel =>
          refine ⟨i + 1, by omega, by go_num, ?_⟩
          have ex : val f (i + 1) = x + (if f i then 2 ^ i else 0) := by rw [← HX.out]; rfl
          have ey : val (fun k => f (64 + k)) (i + 1) = y + (if f (64 + i) then 2 ^ i else 0) := by rw [← HY.out]; rfl
          have lx : x < 2 ^ i := by rw [← HX.out]; exact val_lt _ _
          have ly : y < 2 ^ i := by rw [← HY.out]; exact val_lt _ _
          rw [ex, ey, HF.out, HG.out]
          simp only [or_pow x i lx hlt, or_pow y i ly hlt, if_true, Bool.false_eq_true, if_false, Nat.add_zero]
        case measure => simp [intOf]; omega
    · obtain rfl : i = 64 := by omega
      have HV := Lib.hid (val_split f 64 64)
      have HX := Lib.hid (val_lt f 64)
      have HY := Lib.hid (val_lt (fun k => f (64 + k)) 64)
      generalize val f 64 = x at *
      generalize val (fun k => f (64 + k)) 64 = y at *
      go_wp2
      refine shut_ret (v := .agg #[.int .u64 y, .int .u64 x]) (by simp [results, Tryd.results59, go_sem]) rfl ⟨?_, below3 _ _ _ _⟩
      have h1 := HV.out; have h2 := HX.out; have h3 := HY.out
      have e1 : hi (val f 128) = y := by rw [show (128 : Nat) = 64 + 64 from rfl, h1]; unfold hi; omega
      have e2 : lo (val f 128) = x := by rw [show (128 : Nat) = 64 + 64 from rfl, h1]; unfold lo; omega
      rw [e1, e2]
end Go.Proofs.YtoopbgpoelpjfaaDoor
namespace Go.Proofs.YtoopbgpoelpjfaaDoor
set_option linter.unusedVariables false
open Go.ChangeShapes Go.WideShapes Go.ChangeAt Go.RowKit
def big (n : Nat) : Bool := decide (340282366920938463463374607431768211456 ≤ n)
theorem sm_add (A B : Nat) (hA : A < 340282366920938463463374607431768211456) (hB : B < 340282366920938463463374607431768211456) :
    hi (val (sm A.testBit B.testBit false) 128) = hi (A + B) ∧ lo (val (sm A.testBit B.testBit false) 128) = lo (A + B) ∧ cr A.testBit B.testBit false 128 = big (A + B) := by
  have h := sum_val A.testBit B.testBit false 128
  rw [val_testBit, val_testBit] at h
  have hs := val_lt (sm A.testBit B.testBit false) 128
  generalize val (sm A.testBit B.testBit false) 128 = s at *
  generalize cr A.testBit B.testBit false 128 = c at *
  unfold hi lo big
  cases c <;> simp at h <;> simp <;> omega
theorem there_new (W : World) (c : Nat → Bool) : (W.alloc (.cells (bv c) 83)).there W.heap.size 0 128 := fun j hj => by
  rw [Nat.zero_add, World.cell?_alloc_at _ _ _ _ rfl, World.frozen?_alloc_at _ _ _ _ rfl, bv_get c j hj]
  exact ⟨rfl, rfl⟩
theorem there_below {V w1 : World} (hb : Below V.heap.size V w1) : ∀ k, k < V.heap.size → V.there k 0 128 → w1.there k 0 128 := fun k hk h j hj => by
  obtain ⟨hc, hf⟩ := bcell hb
  rw [hc _ _ hk, hf _ _ hk]; exact h j hj
theorem there_keep {V w1 : World} {k : Nat} (hb : Below V.heap.size V w1) (h : V.there k 0 128) : w1.there k 0 128 := by
  have h0 := (h 0 (by omega)).1
  have hk : k < V.heap.size := by
    rcases Nat.lt_or_ge k V.heap.size with h1 | h1
    · exact h1
    · simp [World.cell?, Array.getElem?_eq_none h1] at h0
  exact there_below hb k hk h
theorem there_alloc {W w1 : World} {c : Nat → Bool} (hb : Below (W.alloc (.cells (bv c) 83)).heap.size (W.alloc (.cells (bv c) 83)) w1) : w1.there W.heap.size 0 128 := there_keep hb (there_new W c)
theorem there_allocd {W w1 : World} {c : Nat → Bool} (hb : Below (W.alloc (.cells (bv c) 83)).drew.heap.size (W.alloc (.cells (bv c) 83)).drew w1) : w1.there W.heap.size 0 128 := there_keep hb (by simpa using there_new W c)
theorem lt_below {V w1 : World} (hb : Below V.heap.size V w1) : ∀ k, k < V.heap.size → k < w1.heap.size := fun k hk => Nat.lt_of_lt_of_le hk hb.size
theorem keepS {W0 W w1 : World} (h : Below W0.heap.size W0 W) (hb : Below W.heap.size W w1) : Below W0.heap.size W0 w1 := h.trans (hb.mono h.size)
theorem keepA {W0 W : World} (h : Below W0.heap.size W0 W) (o : Obj) : Below W0.heap.size W0 (W.alloc o) := h.alloc h.size o
theorem cellS {W0 W w1 : World} {b o : Nat} {v : Value} (h : Below W0.heap.size W0 W) (hb : Below W.heap.size W w1) (hlt : b < W0.heap.size) (hc : W.cell? ⟨b, o, none⟩ = some v) : w1.cell? ⟨b, o, none⟩ = some v := by
  rw [hb.cell (p := ⟨b, o, none⟩) (Nat.lt_of_lt_of_le hlt h.size)]; exact hc
theorem cellA {W0 W : World} {b o : Nat} {v : Value} (h : Below W0.heap.size W0 W) (x : Obj) (hlt : b < W0.heap.size) (hc : W.cell? ⟨b, o, none⟩ = some v) : (W.alloc x).cell? ⟨b, o, none⟩ = some v :=
  cellS h ((Below.refl _ _).alloc (Nat.le_refl _) x) hlt hc
theorem keepAd {W0 W : World} (h : Below W0.heap.size W0 W) (o : Obj) : Below W0.heap.size W0 (W.alloc o).drew := (keepA h o).drew
theorem cellAd {W0 W : World} {b o : Nat} {v : Value} (h : Below W0.heap.size W0 W) (x : Obj) (hlt : b < W0.heap.size) (hc : W.cell? ⟨b, o, none⟩ = some v) : (W.alloc x).drew.cell? ⟨b, o, none⟩ = some v := by
  rw [World.cell?_drew]; exact cellA h x hlt hc
theorem heap_setCells (b : Nat) : ∀ (vs : List Value) (o : Nat) (w : World) (i : Nat), i ≠ b → (w.setCells b o vs).heap[i]? = w.heap[i]? := by
  intro vs
  induction vs with
  | nil => intro o w i _; rfl
  | cons v vs ih => intro o w i hi; simp only [World.setCells]; rw [ih _ _ _ hi]; exact Below.heap_setCell _ _ _ _ hi
theorem below_setCells (b : Nat) : ∀ (vs : List Value) (o : Nat) (w : World), Below b w (w.setCells b o vs) := by
  intro vs
  induction vs with
  | nil => intro o w; exact Below.refl _ _
  | cons v vs ih => intro o w; simp only [World.setCells]; exact ((Below.refl b w).setCell (by simp) _).trans (ih _ _)
theorem keepR {W0 W : World} {k : Nat} (h : Below W0.heap.size W0 W) (hk : W0.heap.size ≤ k) (c : List Value) : Below W0.heap.size W0 (W.setCells k 0 c) :=
  h.trans ((below_setCells k c 0 W).mono hk)
theorem cellR {W0 W : World} {k b o : Nat} {v : Value} (hk : W0.heap.size ≤ k) (c : List Value) (hlt : b < W0.heap.size) (hc : W.cell? ⟨b, o, none⟩ = some v) : (W.setCells k 0 c).cell? ⟨b, o, none⟩ = some v := by
  rw [← hc]
  have h1 := heap_setCells k c 0 W b (by omega)
  unfold World.cell?
  simp only [h1]
set_option maxHeartbeats 1000000 in
set_option maxRecDepth 100000 in
theorem refAdd_any (h1 l1 h2 l2 : Nat) (u1 : U h1) (v1 : U l1) (u2 : U h2) (v2 : U l2) (w : World) :
    Calls Tryd.prog 44 #[.agg #[.int .u64 h1, .int .u64 l1], .agg #[.int .u64 h2, .int .u64 l2]] w fun e w' => e = .returned (.tuple #[.agg #[.int .u64 (hi (num h1 l1 + num h2 l2)), .int .u64 (lo (num h1 l1 + num h2 l2))], .bool (big (num h1 l1 + num h2 l2))]) ∧ Below w.heap.size w w' := by
  have hsz := bv_size
  have htn := there_new
  have htd : ∀ (W : World) (c : Nat → Bool), (W.alloc (.cells (bv c) 83)).drew.there W.heap.size 0 128 := fun W c => by simpa using there_new W c
  have hsd : ∀ (W : World) (o : Obj), W.heap.size < (W.alloc o).drew.heap.size := fun W o => by simp
  have hsa : ∀ (W : World) (o : Obj), W.heap.size < (W.alloc o).heap.size := fun W o => by simp
  have hon : ∀ v ∈ (bv (sm (num h1 l1).testBit (num h2 l2).testBit false)).toList, v.oneCell' = true := fun v hv => (Array.all_eq_true_iff_forall_mem.1 (bv_one _)) v (by simpa using hv)
  have hlen : ∀ f, (bv f).toList.length = 128 := fun f => by simp [bv_size]
  have hib := infoBits
  have hz := zvBits
  go_enter Tryd.func44, Tryd.ntmps44
  refine wp_shut ?_
  go_upto_region 1 with fail
  obtain ⟨W0, hW0⟩ : ∃ W0, W0 = (((w.alloc (Obj.cells #[Value.int IntKind.u64 ↑h1, Value.int IntKind.u64 ↑l1] 66)).alloc (Obj.cells #[Value.int IntKind.u64 ↑h2, Value.int IntKind.u64 ↑l2] 66)).alloc (Obj.cells #[Value.int IntKind.u64 0, Value.int IntKind.u64 0] 66)) := ⟨_, rfl⟩
  have c1 : W0.cell? ⟨w.heap.size, 0, none⟩ = some (.int .u64 h1) := by rw [hW0]; simp [go_sem]
  have c2 : W0.cell? ⟨w.heap.size, 1, none⟩ = some (.int .u64 l1) := by rw [hW0]; simp [go_sem]
  have c3 : W0.cell? ⟨w.heap.size + 1, 0, none⟩ = some (.int .u64 h2) := by rw [hW0]; simp [go_sem]
  have c4 : W0.cell? ⟨w.heap.size + 1, 1, none⟩ = some (.int .u64 l2) := by rw [hW0]; simp [go_sem]
  have hR : W0.heap[w.heap.size + 1 + 1]? = some (.cells #[.int .u64 0, .int .u64 0] 66) := by rw [hW0]; simpa using heap_alloc_new ((w.alloc _).alloc _) (Obj.cells #[Value.int IntKind.u64 0, Value.int IntKind.u64 0] 66)
  have hs0 : w.heap.size + 2 < W0.heap.size := by rw [hW0]; simp
  have hB0 : Below w.heap.size w W0 := by rw [hW0]; exact below3 _ _ _ _
  rw [← hW0]
  clear hW0
  go_cut [6, 7] (fun s6 s7 wx => ∃ g : Nat, s6 = .pointer (some ⟨g, 0, none⟩) ∧ s7 = .bool (cr (num h1 l1).testBit (num h2 l2).testBit false 128) ∧ wx.rangeAt g 0 (bv (sm (num h1 l1).testBit (num h2 l2).testBit false)).toList ∧ Below W0.heap.size W0 wx)
  case first =>
    go_region_held3 (fun w' => Below W0.heap.size W0 w' ∧ w'.cell? ⟨w.heap.size, 0, none⟩ = some (.int .u64 h1) ∧ w'.cell? ⟨w.heap.size, 1, none⟩ = some (.int .u64 l1) ∧ w'.cell? ⟨w.heap.size + 1, 0, none⟩ = some (.int .u64 h2) ∧ w'.cell? ⟨w.heap.size + 1, 1, none⟩ = some (.int .u64 l2))
      (first
        | ((try go_split_ands); refine ⟨(Below.refl _ _).drew, ?_, ?_, ?_, ?_⟩ <;> assumption)
        | ((try go_split_ands); refine ⟨keepS (W0 := W0) ?_ hb1, cellS (W0 := W0) ?_ hb1 ?_ ?_, cellS (W0 := W0) ?_ hb1 ?_ ?_, cellS (W0 := W0) ?_ hb1 ?_ ?_, cellS (W0 := W0) ?_ hb1 ?_ ?_⟩ <;> first | assumption | omega)
        | ((try go_split_ands); refine ⟨keepA (W0 := W0) ?_ _, cellA (W0 := W0) ?_ _ ?_ ?_, cellA (W0 := W0) ?_ _ ?_ ?_, cellA (W0 := W0) ?_ _ ?_ ?_, cellA (W0 := W0) ?_ _ ?_ ?_⟩ <;> first | assumption | omega)
        | ((try go_split_ands); refine ⟨keepAd (W0 := W0) ?_ _, cellAd (W0 := W0) ?_ _ ?_ ?_, cellAd (W0 := W0) ?_ _ ?_ ?_, cellAd (W0 := W0) ?_ _ ?_ ?_, cellAd (W0 := W0) ?_ _ ?_ ?_⟩ <;> first | assumption | omega | exact Below.refl _ _)
        | ((try go_split_ands); refine ⟨keepR (W0 := W0) ?_ ?_ _, cellR (W0 := W0) ?_ _ ?_ ?_, cellR (W0 := W0) ?_ _ ?_ ?_, cellR (W0 := W0) ?_ _ ?_ ?_, cellR (W0 := W0) ?_ _ ?_ ?_⟩ <;> first | assumption | omega | exact Nat.le_refl _))
      (first | (go_at_call 58; refine (bits_any _ _ (by assumption) (by assumption) _).mono ?_; rintro e w1 ⟨rfl, hb1⟩; (try have hk := there_keep hb1 hk); (try have hk := there_alloc hb1); (try have hk := there_allocd hb1); (try go_split_ands); have hge : W0.heap.size ≤ w1.heap.size := by first | (refine (keepS (W0 := W0) ?_ hb1).size; assumption) | exact (hb1.size : W0.heap.size ≤ w1.heap.size)) | (go_at_call 57; refine (sum_any _ _ _ _).mono ?_; rintro e w1 ⟨rfl, hb1⟩; (try have hk := there_keep hb1 hk); (try have hk := there_alloc hb1); (try have hk := there_allocd hb1); (try go_split_ands); have hge : W0.heap.size ≤ w1.heap.size := by first | (refine (keepS (W0 := W0) ?_ hb1).size; assumption) | exact (hb1.size : W0.heap.size ≤ w1.heap.size)))
    all_goals (try go_split_ands)
    all_goals (go_wp2_with fail; go_meet; refine ⟨_, rfl, rfl, World.rangeAt_setCells_same _ _ _ _ ?_, ?_⟩)
    all_goals first | assumption | (rw [hlen]; assumption) | (rw [hlen]; exact there_new _ _)
  case rest =>
    obtain ⟨g, rfl, rfl, hr, hb⟩ := hcut
    clear c1 c2 c3 c4 htn htd hsd hsa
    have h4 : wc.heap[w.heap.size + 1 + 1]? = some (.cells #[.int .u64 0, .int .u64 0] 66) := by rw [hb.block _ (by omega)]; exact hR
    go_wp2_with (refine wpList_load_mid (by rfl) 83 (.tmp 6) (by rfl) g 0 (by rfl) (bv (sm (num h1 l1).testBit (num h2 l2).testBit false)).toList _ hr Tryd.underlying83 (by rfl) (by rw [hib, hlen]) ?_)
    refine (wide_any _ _).mono ?_
    rintro e w2 ⟨rfl, hb2⟩
    have h4' : w2.heap[w.heap.size + 1 + 1]? = some (.cells #[.int .u64 0, .int .u64 0] 66) := by
      rw [hb2.block _ (by have := hb.size; omega)]; exact h4
    have hcell : ∀ o, w2.cell? ⟨w.heap.size + 1 + 1, o, none⟩ = #[Value.int .u64 0, .int .u64 0][o]? := fun o => cell_of_row _ _ _ _ _ _ h4'
    have k0 : w2.cell? ⟨w.heap.size + 1 + 1, 0, none⟩ = some (.int .u64 0) := hcell 0
    have k1 : w2.cell? ⟨w.heap.size + 1 + 1, 1, none⟩ = some (.int .u64 0) := hcell 1
    have kf : ∀ o, w2.frozen? ⟨w.heap.size + 1 + 1, o, none⟩ = false := fun o => by simp [World.frozen?, h4']
    have kf0 := kf 0
    have kf1 := kf 1
    have HB := Lib.hid (keepS hb hb2)
    obtain ⟨e1, e2, e3⟩ := sm_add _ _ (num_lt u1 v1) (num_lt u2 v2)
    have E1 := Lib.hid e1; have E2 := Lib.hid e2; have E3 := Lib.hid e3
    clear e1 e2 e3 hcell kf h4 h4' hb hb2 hr hz hsz hib hlen hR
    go_wp2
    refine shut_ret (v := .tuple #[.agg #[.int .u64 (hi (num h1 l1 + num h2 l2)), .int .u64 (lo (num h1 l1 + num h2 l2))], .bool (big (num h1 l1 + num h2 l2))]) (by simp [results, Tryd.results44, go_sem, k0, k1, E1.out, E2.out, E3.out]) rfl ⟨rfl, ?_⟩
    exact ((hB0.trans (HB.out.mono (by omega))).setCell (by show w.heap.size ≤ w.heap.size + 1 + 1; omega) _).setCell (by show w.heap.size ≤ w.heap.size + 1 + 1; omega) _
end Go.Proofs.YtoopbgpoelpjfaaDoor
namespace Go.Proofs.YtoopbgpoelpjfaaDoor
set_option linter.unusedVariables false
open Go.ChangeShapes Go.WideShapes Go.ChangeAt Go.RowKit
structure Mst (s : Nat) (w wr : World) (f g : Nat → Bool) : Prop where
  z : wr.heap[s]? = some (.cells #[.int .u64 0, .int .u64 0] 66 (0, 0))
  c : wr.heap[s + 1]? = some (.cells (bv f) 83 (0, 0))
  d : wr.heap[s + 1 + 1]? = some (.cells (bv g) 83 (0, 0))
  b : Below s w wr
theorem Mst.size {s : Nat} {w wr : World} {f g : Nat → Bool} (h : Mst s w wr f g) : s + 1 + 1 < wr.heap.size := by
  rcases Nat.lt_or_ge (s + 1 + 1) wr.heap.size with h1 | h1
  · exact h1
  · have := h.d; rw [Array.getElem?_eq_none h1] at this; cases this
theorem heap_setCell_bv {wr : World} {b k : Nat} {g : Nat → Bool} {t : TypeId} {fr : Nat × Nat} (x : Bool) (h : wr.heap[b]? = some (.cells (bv g) t fr)) : (wr.setCell ⟨b, k, none⟩ (.bool x)).heap[b]? = some (.cells (bv (upd g k x)) t fr) := by
  simp only [World.setCell, Array.getElem?_modify, if_true, h, Option.map_some]
  rw [← bv_set]; rfl
theorem Mst.congr {s : Nat} {w wr : World} {f g f' g' : Nat → Bool} (h : Mst s w wr f g) (hf : bv f = bv f') (hg : bv g = bv g') : Mst s w wr f' g' :=
  ⟨h.z, by rw [← hf]; exact h.c, by rw [← hg]; exact h.d, h.b⟩
theorem Mst.cellZ {s : Nat} {w wr : World} {f g : Nat → Bool} (h : Mst s w wr f g) (k : Nat) (hk : k < 2) : wr.cell? ⟨s, k, none⟩ = some (.int .u64 0) := by
  rw [cell_of_row _ _ _ _ _ _ h.z]
  match k, hk with
  | 0, _ => rfl
  | 1, _ => rfl
end Go.Proofs.YtoopbgpoelpjfaaDoor
namespace Go.Proofs.YtoopbgpoelpjfaaDoor
set_option linter.unusedVariables false
open Go.ChangeShapes Go.WideShapes Go.ChangeAt Go.RowKit
theorem lt_of_heap {w : World} {k : Nat} {o : Obj} (h : w.heap[k]? = some o) : k < w.heap.size := by
  rcases Nat.lt_or_ge k w.heap.size with h1 | h1
  · exact h1
  · rw [Array.getElem?_eq_none h1] at h; cases h
structure Dst (n : Nat) (w wr : World) (f g : Nat → Bool) : Prop where
  x : wr.heap[n]? = some (.cells (bv f) 83 (0, 0))
  q : wr.heap[n + 1]? = some (.cells (bv g) 83 (0, 0))
  b : Below n w wr
theorem Dst.setQ {n : Nat} {w wr : World} {f g : Nat → Bool} (h : Dst n w wr f g) (k : Nat) (x : Bool) : Dst n w (wr.setCell ⟨n + 1, k, none⟩ (.bool x)) f (upd g k x) :=
  ⟨by rw [Below.heap_setCell _ _ _ _ (by show n ≠ n + 1; omega)]; exact h.x, heap_setCell_bv x h.q, h.b.setCell (by show n ≤ n + 1; omega) _⟩
theorem Dst.cellX {n : Nat} {w wr : World} {f g : Nat → Bool} (h : Dst n w wr f g) (k : Nat) (hk : k < 128) : wr.cell? ⟨n, k, none⟩ = some (.bool (f k)) := by
  rw [cell_of_row _ _ _ _ _ _ h.x, bv_get f k hk]
theorem Dst.cellQ {n : Nat} {w wr : World} {f g : Nat → Bool} (h : Dst n w wr f g) (k : Nat) (hk : k < 128) : wr.cell? ⟨n + 1, k, none⟩ = some (.bool (g k)) := by
  rw [cell_of_row _ _ _ _ _ _ h.q, bv_get g k hk]
theorem Dst.freeQ {n : Nat} {w wr : World} {f g : Nat → Bool} (h : Dst n w wr f g) (k : Nat) : wr.frozen? ⟨n + 1, k, none⟩ = false := by simp [World.frozen?, h.q]
theorem Dst.congr {n : Nat} {w wr : World} {f g f' g' : Nat → Bool} (h : Dst n w wr f g) (hf : bv f = bv f') (hg : bv g = bv g') : Dst n w wr f' g' :=
  ⟨by rw [← hf]; exact h.x, by rw [← hg]; exact h.q, h.b⟩
def qq (Q k : Nat) : Nat → Bool := fun j => decide (k ≤ j) && Q.testBit j
theorem qq_start (Q : Nat) : bv (qq Q 128) = bv fun _ => false := bv_congr fun j hj => by simp [qq, show ¬ 128 ≤ j by omega]
theorem qq_zero (Q : Nat) : qq Q 0 = Nat.testBit Q := by funext j; simp [qq]
theorem qq_set (Q i : Nat) (h : Q.testBit i = true) : upd (qq Q (i + 1)) i true = qq Q i := by
  funext j
  simp only [upd, qq]
  by_cases h1 : j = i
  · subst h1; simp [h]
  · rw [if_neg h1, show decide (i + 1 ≤ j) = decide (i ≤ j) by rw [decide_eq_decide]; omega]
theorem qq_keep (Q i : Nat) (h : Q.testBit i = false) : qq Q (i + 1) = qq Q i := by
  funext j
  simp only [qq]
  by_cases h1 : j = i
  · subst h1; simp [h]
  · rw [show decide (i + 1 ≤ j) = decide (i ≤ j) by rw [decide_eq_decide]; omega]
theorem div_step (A b i : Nat) (hb : 0 < b) : let r := A / 2 ^ (i + 1) % b; let r2 := 2 * r + (A.testBit i).toNat
    (A / b).testBit i = decide (b ≤ r2) ∧ A / 2 ^ i % b = (if b ≤ r2 then r2 - b else r2) ∧ r < b := by
  intro r r2
  have hM : A / 2 ^ i = 2 * (A / 2 ^ (i + 1)) + (A.testBit i).toNat := by
    rw [Nat.pow_succ, ← Nat.div_div_eq_div_mul, Nat.testBit_eq_decide_div_mod_eq]
    generalize A / 2 ^ i = M
    by_cases h : M % 2 = 1
    · simp [h]; omega
    · simp [h]; omega
  have hr : r < b := Nat.mod_lt _ hb
  have hq : (A / b).testBit i = decide ((A / 2 ^ i) / b % 2 = 1) := by
    rw [Nat.testBit_eq_decide_div_mod_eq, Nat.div_div_eq_div_mul, Nat.div_div_eq_div_mul, Nat.mul_comm b]
  have hd : A / 2 ^ (i + 1) = b * (A / 2 ^ (i + 1) / b) + r := (Nat.div_add_mod _ _).symm
  have hb2 : (A.testBit i).toNat < 2 := by cases A.testBit i <;> decide
  have e : A / 2 ^ i = b * (2 * (A / 2 ^ (i + 1) / b)) + r2 := by
    rw [hM]
    have : r2 = 2 * r + (A.testBit i).toNat := rfl
    rw [this]
    generalize A / 2 ^ (i + 1) / b = Qq at *
    generalize A / 2 ^ (i + 1) = M at *
    have : b * (2 * Qq) = 2 * (b * Qq) := by rw [Nat.mul_left_comm]
    omega
  generalize A / 2 ^ (i + 1) / b = Qq at e
  rw [hq]
  have hr2 : r2 < 2 * b := by show 2 * r + _ < 2 * b; omega
  by_cases hc : b ≤ r2
  · have e1 : A / 2 ^ i = b * (2 * Qq + 1) + (r2 - b) := by rw [e, Nat.mul_add]; omega
    refine ⟨?_, ?_, hr⟩
    · rw [e1, Nat.mul_add_div hb, Nat.div_eq_of_lt (by omega)]; simp [hc]
    · rw [e1, Nat.mul_add_mod, Nat.mod_eq_of_lt (by omega), if_pos hc]
  · refine ⟨?_, ?_, hr⟩
    · rw [e, Nat.mul_add_div hb, Nat.div_eq_of_lt (by omega)]; simp [hc]
    · rw [e, Nat.mul_add_mod, Nat.mod_eq_of_lt (by omega), if_neg hc]
theorem or_one (x y : Nat) (hx : x = 2 * y) (h : U x) : bits .or .u64 (x : Int) 1 = ((x + 1 : Nat) : Int) := by
  have := u64_or_nat x 1 h (by omega)
  rw [show ((1 : Nat) : Int) = 1 from rfl] at this
  rw [this, hx]
  have h2 := Nat.two_pow_add_eq_or_of_lt (show 1 < 2 ^ 1 by omega) y
  rw [Nat.pow_one] at h2
  rw [← h2]
set_option maxHeartbeats 1600000 in
set_option maxRecDepth 100000 in
theorem refDiv_any (h l b : Nat) (hh : U h) (hl : U l) (hb : U b) (hb0 : 0 < b) (w : World) : Calls Tryd.prog 62 #[.agg #[.int .u64 h, .int .u64 l], .int .u64 b] w fun e w' =>
    e = .returned (.tuple #[.agg #[.int .u64 (hi (num h l / b)), .int .u64 (lo (num h l / b))], .int .u64 (num h l % b : Nat), .int .i64 0]) ∧ Below w.heap.size w w' := by
  have hz := zvBits
  have hbi : ((b : Int) == 0) = false := by rw [beq_eq_false_iff_ne]; omega
  go_enter Tryd.func62, Tryd.ntmps62
  refine wp_shut ?_
  go_wp2_with fail
  refine (bits_any h l hh hl _).mono ?_
  rintro e w1 ⟨rfl, hb1⟩
  obtain ⟨hc, hf⟩ := bcell hb1
  have hg0 := heap_alloc_new w1 (.cells (bv fun _ => false) 83)
  have HB1 := Lib.hid hb1
  clear hb1
  have hA := num_lt hh hl
  generalize hA2 : num h l = A at *
  have HA := Lib.hid hA2
  clear hA2
  go_wp2_with (first
    | (refine wpList_store_row (by rfl) 83 (.tmp 7) (.tmp 16) (by rfl) w1.heap.size (bv A.testBit) (by rfl) (by rfl) 83 (bv fun _ => false) hg0 (infoBv _) (by rw [bv_size, bv_size]) (bv_one _) ?_; rw [World.setRow_alloc_new]; clear hg0))
  have HD0 : Hid (Dst w1.heap.size w1 ((w1.alloc (.cells (bv A.testBit) 83)).alloc (.cells (bv fun _ => false) 83)) A.testBit (fun _ => false)) :=
    ⟨by simpa using heap_alloc2_old w1 _ _, by simpa using heap_alloc_new (w1.alloc _) _, below2 _ _ _⟩
  clear hz
  go_loopw [9, 10] (fun s9 s10 wr => ∃ k : Nat, k ≤ 128 ∧ s10 = .int .i64 ((k : Int) - 1) ∧ s9 = .int .u64 ((A / 2 ^ k % b : Nat) : Int) ∧ Dst w1.heap.size w1 wr A.testBit (qq (A / b) k)) (fun _ s10 _ => (intOf s10 + 1).toNat)
  case atStart => exact ⟨128, by omega, by go_num, by rw [Nat.div_eq_of_lt hA, Nat.zero_mod]; rfl, HD0.out.congr rfl (qq_start _).symm⟩
  case round =>
    obtain ⟨k, hk, rfl, rfl, hX⟩ := hrel
    clear HD0
    by_cases hk0 : 0 < k
    · obtain ⟨i, rfl⟩ : ∃ i, k = i + 1 := ⟨k - 1, by omega⟩
      obtain ⟨d1, d2, d3⟩ := div_step A b i hb0
      have ek : ((i + 1 : Nat) : Int) - 1 = (i : Int) := by omega
      rw [ek]
      have HX := Lib.hid hX
      have x1c := hX.cellX i (by omega)
      have x2 := hX.cellQ i (by omega)
      have xf := hX.freeQ i
      have H1 := Lib.hid d1
      have H2 := Lib.hid d2
      generalize A / 2 ^ (i + 1) % b = r at *
      clear hX d1 d2 ek
      obtain ⟨x0, E0⟩ : ∃ x0, Hid (x0 = 2 * (r % 9223372036854775808)) := ⟨_, rfl⟩
      have hx0 : x0 = 2 * (r % 9223372036854775808) := E0.out
      have hrU : r < 18446744073709551616 := Nat.lt_trans d3 hb
      have e0 : IntKind.u64.wrap ((r : Int) * 2) = (x0 : Int) := by rw [IntKind.wrap_u64]; omega
      cases hbit : A.testBit i <;> rw [hbit] at x1c <;> (have HT := Lib.hid hbit; clear hbit)
      · obtain ⟨x1, E1⟩ : ∃ x1, Hid (x1 = x0) := ⟨_, rfl⟩
        obtain rfl : x1 = x0 := E1.out
        have hr2 : (2 * r + (A.testBit i).toNat) = 2 * r + 0 := by rw [HT.out]; rfl
        have h1q := H1.out; have h2q := H2.out
        rw [hr2] at h1q h2q
        by_cases h2 : 9223372036854775808 ≤ r
        · have ho : decide ((9223372036854775808 : Int) ≤ (r : Int)) = true := by rw [decide_eq_true_eq]; omega
          have hqb : (A / b).testBit i = true := by rw [h1q, decide_eq_true_eq]; unfold U at hb; omega
          have e3 : IntKind.u64.wrap ((x1 : Int) - (b : Int)) = ((A / 2 ^ i % b : Nat) : Int) := by rw [h2q, if_pos (by unfold U at hb; omega), IntKind.wrap_u64]; unfold U at hb; omega
          have HQ := Lib.hid (qq_set (A / b) i hqb)
          generalize hR : A / 2 ^ i % b = R at *
          have HR := Lib.hid hR
          clear hR
          clear h1q h2q h2 hqb hr2 H1 H2 d3 HT E0 E1 hb hx0 hrU
          go_wp2
          go_roundw
          case rel => exact ⟨i, by omega, rfl, by rw [HR.out], by rw [← HQ.out]; exact HX.out.setQ i true⟩
          case measure => simp [intOf]
        · have ho : decide ((9223372036854775808 : Int) ≤ (r : Int)) = false := by rw [decide_eq_false_iff_not]; omega
          by_cases h3 : b ≤ x1
          · have hc1 : decide (b ≤ x1) = true := by rw [decide_eq_true_eq]; omega
            have hqb : (A / b).testBit i = true := by rw [h1q, decide_eq_true_eq]; omega
            have e3 : IntKind.u64.wrap ((x1 : Int) - (b : Int)) = ((A / 2 ^ i % b : Nat) : Int) := by rw [h2q, if_pos (by omega), IntKind.wrap_u64]; unfold U at hb; omega
            have HQ := Lib.hid (qq_set (A / b) i hqb)
            generalize hR : A / 2 ^ i % b = R at *
            have HR := Lib.hid hR
            clear hR
            clear h1q h2q h2 hqb hr2 H1 H2 d3 HT E0 E1 hb hx0 hrU h3
            go_wp2
            go_roundw
            case rel => exact ⟨i, by omega, rfl, by rw [HR.out], by rw [← HQ.out]; exact HX.out.setQ i true⟩
            case measure => simp [intOf]
          · have hc1 : decide (b ≤ x1) = false := by rw [decide_eq_false_iff_not]; omega
            have hqb : (A / b).testBit i = false := by rw [h1q, decide_eq_false_iff_not]; omega
            have e3 : (x1 : Int) = ((A / 2 ^ i % b : Nat) : Int) := by rw [h2q, if_neg (by omega)]; omega
            have E3 := Lib.hid e3
            have HQ := Lib.hid (qq_keep (A / b) i hqb)
            generalize hR : A / 2 ^ i % b = R at *
            have HR := Lib.hid hR
            clear hR
            clear h1q h2q h2 hqb hr2 H1 H2 d3 HT E0 E1 hb hx0 hrU h3 e3
            go_wp2
            go_roundw
            case rel => exact ⟨i, by omega, rfl, by rw [E3.out, HR.out], by rw [← HQ.out]; exact HX.out⟩
            case measure => simp [intOf]
      · obtain ⟨x1, E1⟩ : ∃ x1, Hid (x1 = x0 + 1) := ⟨_, rfl⟩
        have hx1 : x1 = x0 + 1 := E1.out
        have e1 : bits .or .u64 (x0 : Int) 1 = (x1 : Int) := by rw [or_one x0 _ hx0 (by unfold U; omega), hx1]
        have hr2 : (2 * r + (A.testBit i).toNat) = 2 * r + 1 := by rw [HT.out]; rfl
        have h1q := H1.out; have h2q := H2.out
        rw [hr2] at h1q h2q
        by_cases h2 : 9223372036854775808 ≤ r
        · have ho : decide ((9223372036854775808 : Int) ≤ (r : Int)) = true := by rw [decide_eq_true_eq]; omega
          have hqb : (A / b).testBit i = true := by rw [h1q, decide_eq_true_eq]; unfold U at hb; omega
          have e3 : IntKind.u64.wrap ((x1 : Int) - (b : Int)) = ((A / 2 ^ i % b : Nat) : Int) := by rw [h2q, if_pos (by unfold U at hb; omega), IntKind.wrap_u64]; unfold U at hb; omega
          have HQ := Lib.hid (qq_set (A / b) i hqb)
          generalize hR : A / 2 ^ i % b = R at *
          have HR := Lib.hid hR
          clear hR
          clear h1q h2q h2 hqb hr2 H1 H2 d3 HT E0 E1 hb hx0 hrU hx1
          go_wp2
          go_roundw
          case rel => exact ⟨i, by omega, rfl, by rw [HR.out], by rw [← HQ.out]; exact HX.out.setQ i true⟩
          case measure => simp [intOf]
        · have ho : decide ((9223372036854775808 : Int) ≤ (r : Int)) = false := by rw [decide_eq_false_iff_not]; omega
          by_cases h3 : b ≤ x1
          · have hc1 : decide (b ≤ x1) = true := by rw [decide_eq_true_eq]; omega
            have hqb : (A / b).testBit i = true := by rw [h1q, decide_eq_true_eq]; omega
            have e3 : IntKind.u64.wrap ((x1 : Int) - (b : Int)) = ((A / 2 ^ i % b : Nat) : Int) := by rw [h2q, if_pos (by omega), IntKind.wrap_u64]; unfold U at hb; omega
            have HQ := Lib.hid (qq_set (A / b) i hqb)
            generalize hR : A / 2 ^ i % b = R at *
            have HR := Lib.hid hR
            clear hR
            clear h1q h2q h2 hqb hr2 H1 H2 d3 HT E0 E1 hb hx0 hrU hx1 h3
            go_wp2
            go_roundw
            case rel => exact ⟨i, by omega, rfl, by rw [HR.out], by rw [← HQ.out]; exact HX.out.setQ i true⟩
            case measure => simp [intOf]
          · have hc1 : decide (b ≤ x1) = false := by rw [decide_eq_false_iff_not]; omega
            have hqb : (A / b).testBit i = false := by rw [h1q, decide_eq_false_iff_not]; omega
            have e3 : (x1 : Int) = ((A / 2 ^ i % b : Nat) : Int) := by rw [h2q, if_neg (by omega)]; omega
            have E3 := Lib.hid e3
            have HQ := Lib.hid (qq_keep (A / b) i hqb)
            generalize hR : A / 2 ^ i % b = R at *
            have HR := Lib.hid hR
            clear hR
            clear h1q h2q h2 hqb hr2 H1 H2 d3 HT E0 E1 hb hx0 hrU hx1 h3 e3
            go_wp2
            go_roundw
            case rel => exact ⟨i, by omega, rfl, by rw [E3.out, HR.out], by rw [← HQ.out]; exact HX.out⟩
            case measure => simp [intOf]
    · obtain rfl : k = 0 := by omega
      have hX2 := hX
      rw [qq_zero] at hX2
      have hlt : A / b < 340282366920938463463374607431768211456 := Nat.lt_of_le_of_lt (Nat.div_le_self _ _) hA
      have HV := Lib.hid (show val (Nat.testBit (A / b)) 128 = A / b by rw [val_testBit]; exact Nat.mod_eq_of_lt hlt)
      have HR := Lib.hid (show A / 2 ^ 0 % b = A % b by rw [Nat.pow_zero, Nat.div_one])
      have hgq := hX2.q
      have hbel := hX2.b
      have hz1 : w.heap.size + 1 < w1.heap.size := by have := HB1.out.size; simp at this; omega
      have hB1 : Below w.heap.size w w1 := (below2 w _ _).trans (HB1.out.mono (by simp; omega))
      have hres : wr.heap[w.heap.size + 1]? = some (.cells #[.int .u64 0, .int .u64 0] 66) := by
        rw [hbel.block _ hz1, HB1.out.block _ (by simp)]; simpa using heap_alloc_new (w.alloc _) _
      have HRES := Lib.hid hres
      have HBEL := Lib.hid (hB1.trans (hbel.mono (by omega)))
      have HZ := Lib.hid hz1
      clear hX hX2 hbel hB1 hres hz1 hlt hc hf hbi
      generalize hQ2 : A / b = Qq at *
      have HQQ := Lib.hid hQ2
      clear hQ2
      generalize A / 2 ^ 0 % b = R at *
      go_wp2_with (first
        | (refine wpList_load_row (by rfl) 83 (.tmp 8) (by rfl) (w1.heap.size + 1) (by rfl) 83 (bv (Nat.testBit Qq)) (0, 0) _ hgq Tryd.underlying83 (by rfl) (infoBv _) ?_; clear hgq))
      refine (wide_any _ _).mono ?_
      rintro e w2 ⟨rfl, hb2⟩
      have hlast : w2.heap[w.heap.size + 1]? = some (.cells #[.int .u64 0, .int .u64 0] 66) := by rw [hb2.block _ (lt_of_heap HRES.out)]; exact HRES.out
      have k0 : w2.cell? ⟨w.heap.size + 1, 0, none⟩ = some (.int .u64 0) := cell_of_row _ _ _ _ _ _ hlast
      have k1 : w2.cell? ⟨w.heap.size + 1, 1, none⟩ = some (.int .u64 0) := cell_of_row _ _ _ _ _ _ hlast
      have kf0 : w2.frozen? ⟨w.heap.size + 1, 0, none⟩ = false := by simp [World.frozen?, hlast]
      have kf1 : w2.frozen? ⟨w.heap.size + 1, 1, none⟩ = false := by simp [World.frozen?, hlast]
      have HB := Lib.hid (HBEL.out.trans (hb2.mono (by have := lt_of_heap HRES.out; omega)))
      clear hlast hb2
      go_wp2
      refine shut_ret (v := .tuple #[.agg #[.int .u64 (hi Qq), .int .u64 (lo Qq)], .int .u64 (A % b : Nat), .int .i64 0]) (by simp [results, Tryd.results62, go_sem, k0, k1, HV.out, HR.out]) rfl ⟨by rw [HA.out, HQQ.out], ?_⟩
      exact (HB.out.setCell (by show w.heap.size ≤ w.heap.size + 1; omega) _).setCell (by show w.heap.size ≤ w.heap.size + 1; omega) _
end Go.Proofs.YtoopbgpoelpjfaaDoor
namespace Go.Proofs.YtoopbgpoelpjfaaDoor
set_option linter.unusedVariables false
open Go.ChangeShapes Go.WideShapes Go.ChangeAt Go.RowKit
theorem sm_sub (A B : Nat) (hA : A < 340282366920938463463374607431768211456) (hB : B < 340282366920938463463374607431768211456) :
    hi (val (sm A.testBit (fun k => !B.testBit k) true) 128) = hi (A + 340282366920938463463374607431768211456 - B) ∧ lo (val (sm A.testBit (fun k => !B.testBit k) true) 128) = lo (A + 340282366920938463463374607431768211456 - B) ∧ cr A.testBit (fun k => !B.testBit k) true 128 = !decide (A < B) := by
  have h := sum_val A.testBit (fun k => !B.testBit k) true 128
  have hn := val_not B.testBit 128
  rw [val_testBit] at h hn
  have hs := val_lt (sm A.testBit (fun k => !B.testBit k) true) 128
  generalize val (sm A.testBit (fun k => !B.testBit k) true) 128 = s at *
  generalize cr A.testBit (fun k => !B.testBit k) true 128 = c at *
  generalize val (fun k => !B.testBit k) 128 = t at *
  unfold hi lo
  cases c <;> simp at h <;> simp <;> omega
set_option maxHeartbeats 1000000 in
set_option maxRecDepth 100000 in
theorem refSub_any (h1 l1 h2 l2 : Nat) (u1 : U h1) (v1 : U l1) (u2 : U h2) (v2 : U l2) (w : World) :
    Calls Tryd.prog 68 #[.agg #[.int .u64 h1, .int .u64 l1], .agg #[.int .u64 h2, .int .u64 l2]] w fun e w' => e = .returned (.tuple #[.agg #[.int .u64 (hi (num h1 l1 + 340282366920938463463374607431768211456 - num h2 l2)), .int .u64 (lo (num h1 l1 + 340282366920938463463374607431768211456 - num h2 l2))], .bool (decide (num h1 l1 < num h2 l2))]) ∧ Below w.heap.size w w' := by
  have hsz := bv_size
  have htn := there_new
  have htd : ∀ (W : World) (c : Nat → Bool), (W.alloc (.cells (bv c) 83)).drew.there W.heap.size 0 128 := fun W c => by simpa using there_new W c
  have hsd : ∀ (W : World) (o : Obj), W.heap.size < (W.alloc o).drew.heap.size := fun W o => by simp
  have hsa : ∀ (W : World) (o : Obj), W.heap.size < (W.alloc o).heap.size := fun W o => by simp
  have hon : ∀ v ∈ (bv (sm (num h1 l1).testBit (fun k => !(num h2 l2).testBit k) true)).toList, v.oneCell' = true := fun v hv => (Array.all_eq_true_iff_forall_mem.1 (bv_one _)) v (by simpa using hv)
  have hlen : ∀ f, (bv f).toList.length = 128 := fun f => by simp [bv_size]
  have hib := infoBits
  have hz := zvBits
  go_enter Tryd.func68, Tryd.ntmps68
  refine wp_shut ?_
  go_upto_region 1 with fail
  obtain ⟨W0, hW0⟩ : ∃ W0, W0 = (((w.alloc (Obj.cells #[Value.int IntKind.u64 ↑h1, Value.int IntKind.u64 ↑l1] 66)).alloc (Obj.cells #[Value.int IntKind.u64 ↑h2, Value.int IntKind.u64 ↑l2] 66)).alloc (Obj.cells #[Value.int IntKind.u64 0, Value.int IntKind.u64 0] 66)) := ⟨_, rfl⟩
  have c1 : W0.cell? ⟨w.heap.size, 0, none⟩ = some (.int .u64 h1) := by rw [hW0]; simp [go_sem]
  have c2 : W0.cell? ⟨w.heap.size, 1, none⟩ = some (.int .u64 l1) := by rw [hW0]; simp [go_sem]
  have c3 : W0.cell? ⟨w.heap.size + 1, 0, none⟩ = some (.int .u64 h2) := by rw [hW0]; simp [go_sem]
  have c4 : W0.cell? ⟨w.heap.size + 1, 1, none⟩ = some (.int .u64 l2) := by rw [hW0]; simp [go_sem]
  have hR : W0.heap[w.heap.size + 1 + 1]? = some (.cells #[.int .u64 0, .int .u64 0] 66) := by rw [hW0]; simpa using heap_alloc_new ((w.alloc _).alloc _) (Obj.cells #[Value.int IntKind.u64 0, Value.int IntKind.u64 0] 66)
  have hs0 : w.heap.size + 2 < W0.heap.size := by rw [hW0]; simp
  have hB0 : Below w.heap.size w W0 := by rw [hW0]; exact below3 _ _ _ _
  rw [← hW0]
  clear hW0
  go_cut [6, 7] (fun s6 s7 wx => ∃ g : Nat, s6 = .pointer (some ⟨g, 0, none⟩) ∧ s7 = .bool (cr (num h1 l1).testBit (fun k => !(num h2 l2).testBit k) true 128) ∧ wx.rangeAt g 0 (bv (sm (num h1 l1).testBit (fun k => !(num h2 l2).testBit k) true)).toList ∧ Below W0.heap.size W0 wx)
  case first =>
    go_region_held3 (fun w' => Below W0.heap.size W0 w' ∧ w'.cell? ⟨w.heap.size, 0, none⟩ = some (.int .u64 h1) ∧ w'.cell? ⟨w.heap.size, 1, none⟩ = some (.int .u64 l1) ∧ w'.cell? ⟨w.heap.size + 1, 0, none⟩ = some (.int .u64 h2) ∧ w'.cell? ⟨w.heap.size + 1, 1, none⟩ = some (.int .u64 l2))
      (first
        | ((try go_split_ands); refine ⟨(Below.refl _ _).drew, ?_, ?_, ?_, ?_⟩ <;> assumption)
        | ((try go_split_ands); refine ⟨keepS (W0 := W0) ?_ hb1, cellS (W0 := W0) ?_ hb1 ?_ ?_, cellS (W0 := W0) ?_ hb1 ?_ ?_, cellS (W0 := W0) ?_ hb1 ?_ ?_, cellS (W0 := W0) ?_ hb1 ?_ ?_⟩ <;> first | assumption | omega)
        | ((try go_split_ands); refine ⟨keepA (W0 := W0) ?_ _, cellA (W0 := W0) ?_ _ ?_ ?_, cellA (W0 := W0) ?_ _ ?_ ?_, cellA (W0 := W0) ?_ _ ?_ ?_, cellA (W0 := W0) ?_ _ ?_ ?_⟩ <;> first | assumption | omega)
        | ((try go_split_ands); refine ⟨keepAd (W0 := W0) ?_ _, cellAd (W0 := W0) ?_ _ ?_ ?_, cellAd (W0 := W0) ?_ _ ?_ ?_, cellAd (W0 := W0) ?_ _ ?_ ?_, cellAd (W0 := W0) ?_ _ ?_ ?_⟩ <;> first | assumption | omega | exact Below.refl _ _)
        | ((try go_split_ands); refine ⟨keepR (W0 := W0) ?_ ?_ _, cellR (W0 := W0) ?_ _ ?_ ?_, cellR (W0 := W0) ?_ _ ?_ ?_, cellR (W0 := W0) ?_ _ ?_ ?_, cellR (W0 := W0) ?_ _ ?_ ?_⟩ <;> first | assumption | omega | exact Nat.le_refl _))
      (first | (go_at_call 58; refine (bits_any _ _ (by assumption) (by assumption) _).mono ?_; rintro e w1 ⟨rfl, hb1⟩; (try have hk := there_keep hb1 hk); (try have hk := there_alloc hb1); (try have hk := there_allocd hb1); (try go_split_ands); have hge : W0.heap.size ≤ w1.heap.size := by first | (refine (keepS (W0 := W0) ?_ hb1).size; assumption) | exact (hb1.size : W0.heap.size ≤ w1.heap.size)) | (go_at_call 74; refine (turned_any _ _).mono ?_; rintro e w1 ⟨rfl, hb1⟩; (try have hk := there_keep hb1 hk); (try have hk := there_alloc hb1); (try have hk := there_allocd hb1); (try go_split_ands); have hge : W0.heap.size ≤ w1.heap.size := by first | (refine (keepS (W0 := W0) ?_ hb1).size; assumption) | exact (hb1.size : W0.heap.size ≤ w1.heap.size)) | (go_at_call 57; refine (sum_any _ _ _ _).mono ?_; rintro e w1 ⟨rfl, hb1⟩; (try have hk := there_keep hb1 hk); (try have hk := there_alloc hb1); (try have hk := there_allocd hb1); (try go_split_ands); have hge : W0.heap.size ≤ w1.heap.size := by first | (refine (keepS (W0 := W0) ?_ hb1).size; assumption) | exact (hb1.size : W0.heap.size ≤ w1.heap.size)))
    all_goals (try go_split_ands)
    all_goals (go_wp2_with fail; go_meet; refine ⟨_, rfl, rfl, World.rangeAt_setCells_same _ _ _ _ ?_, ?_⟩)
    all_goals first | assumption | (rw [hlen]; assumption) | (rw [hlen]; exact there_new _ _)
  case rest =>
    obtain ⟨g, rfl, rfl, hr, hb⟩ := hcut
    clear c1 c2 c3 c4 htn htd hsd hsa
    have h4 : wc.heap[w.heap.size + 1 + 1]? = some (.cells #[.int .u64 0, .int .u64 0] 66) := by rw [hb.block _ (by omega)]; exact hR
    go_wp2_with (refine wpList_load_mid (by rfl) 83 (.tmp 6) (by rfl) g 0 (by rfl) (bv (sm (num h1 l1).testBit (fun k => !(num h2 l2).testBit k) true)).toList _ hr Tryd.underlying83 (by rfl) (by rw [hib, hlen]) ?_)
    refine (wide_any _ _).mono ?_
    rintro e w2 ⟨rfl, hb2⟩
    have h4' : w2.heap[w.heap.size + 1 + 1]? = some (.cells #[.int .u64 0, .int .u64 0] 66) := by
      rw [hb2.block _ (by have := hb.size; omega)]; exact h4
    have hcell : ∀ o, w2.cell? ⟨w.heap.size + 1 + 1, o, none⟩ = #[Value.int .u64 0, .int .u64 0][o]? := fun o => cell_of_row _ _ _ _ _ _ h4'
    have k0 : w2.cell? ⟨w.heap.size + 1 + 1, 0, none⟩ = some (.int .u64 0) := hcell 0
    have k1 : w2.cell? ⟨w.heap.size + 1 + 1, 1, none⟩ = some (.int .u64 0) := hcell 1
    have kf : ∀ o, w2.frozen? ⟨w.heap.size + 1 + 1, o, none⟩ = false := fun o => by simp [World.frozen?, h4']
    have kf0 := kf 0
    have kf1 := kf 1
    have HB := Lib.hid (keepS hb hb2)
    obtain ⟨e1, e2, e3⟩ := sm_sub _ _ (num_lt u1 v1) (num_lt u2 v2)
    have E1 := Lib.hid e1; have E2 := Lib.hid e2; have E3 := Lib.hid e3
    clear e1 e2 e3 hcell kf h4 h4' hb hb2 hr hz hsz hib hlen hR
    go_wp2
    refine shut_ret (v := .tuple #[.agg #[.int .u64 (hi (num h1 l1 + 340282366920938463463374607431768211456 - num h2 l2)), .int .u64 (lo (num h1 l1 + 340282366920938463463374607431768211456 - num h2 l2))], .bool (decide (num h1 l1 < num h2 l2))]) (by simp [results, Tryd.results68, go_sem, k0, k1, E1.out, E2.out, E3.out]) rfl ⟨rfl, ?_⟩
    exact ((hB0.trans (HB.out.mono (by omega))).setCell (by show w.heap.size ≤ w.heap.size + 1 + 1; omega) _).setCell (by show w.heap.size ≤ w.heap.size + 1 + 1; omega) _
end Go.Proofs.YtoopbgpoelpjfaaDoor
namespace Go.Proofs.YtoopbgpoelpjfaaDoor
set_option linter.unusedVariables false
open Go.ChangeShapes Go.WideShapes Go.ChangeAt Go.RowKit
theorem ret_bool {a b : Bool} (h : a = b) : Ending.returned (.bool a) = Ending.returned (.bool b) := by rw [h]
def neg (h : Nat) : Bool := decide (9223372036854775808 ≤ h)
theorem below_any (h l : Nat) (w : World) : Calls Tryd.prog 60 #[.agg #[.int .u64 h, .int .u64 l]] w fun e w' => e = .returned (.bool (neg h)) ∧ Below w.heap.size w w' := by
  go_enter Tryd.func60, Tryd.ntmps60
  go_wp2
  go_ret
  exact ⟨ret_bool (by unfold neg; rw [decide_eq_decide]; omega), (Below.refl _ _).alloc (Nat.le_refl _) _⟩
def ofH (n : Int) : Nat := if n < 0 then 18446744073709551615 else 0
def ofL (n : Int) : Nat := (n % 18446744073709551616).toNat
theorem wrap_ofL (n : Int) : IntKind.u64.wrap n = (ofL n : Int) := by rw [IntKind.wrap_u64]; unfold ofL; omega
theorem refOf_any (n : Int) (w : World) : Calls Tryd.prog 45 #[.int .i64 n] w fun e w' => e = .returned (.agg #[.int .u64 (ofH n), .int .u64 (ofL n)]) ∧ Below w.heap.size w w' := by
  have HW := Lib.hid (wrap_ofL n)
  by_cases h : n < 0
  · have HO := Lib.hid (show (ofH n : Int) = 18446744073709551615 by unfold ofH; rw [if_pos h]; rfl)
    go_enter Tryd.func45, Tryd.ntmps45
    refine wp_shut ?_
    go_wp2
    refine shut_ret (v := .agg #[.int .u64 18446744073709551615, .int .u64 (IntKind.u64.wrap n)]) (by simp [results, Tryd.results45, go_sem]) rfl ⟨by rw [HO.out, HW.out], (Below.refl _ _).alloc (Nat.le_refl _) _⟩
  · have HO := Lib.hid (show (ofH n : Int) = 0 by unfold ofH; rw [if_neg h]; rfl)
    go_enter Tryd.func45, Tryd.ntmps45
    refine wp_shut ?_
    go_wp2
    refine shut_ret (v := .agg #[.int .u64 0, .int .u64 (IntKind.u64.wrap n)]) (by simp [results, Tryd.results45, go_sem]) rfl ⟨by rw [HO.out, HW.out], (Below.refl _ _).alloc (Nat.le_refl _) _⟩
end Go.Proofs.YtoopbgpoelpjfaaDoor
namespace Go.Proofs.YtoopbgpoelpjfaaDoor
set_option linter.unusedVariables false
open Go.ChangeShapes Go.WideShapes Go.ChangeAt Go.RowKit
set_option maxHeartbeats 1000000 in
set_option maxRecDepth 100000 in
theorem refNeg_any (h l : Nat) (u : U h) (v : U l) (w : World) :
    Calls Tryd.prog 61 #[.agg #[.int .u64 h, .int .u64 l]] w fun e w' => e = .returned (.agg #[.int .u64 (hi (340282366920938463463374607431768211456 - num h l)), .int .u64 (lo (340282366920938463463374607431768211456 - num h l))]) ∧ Below w.heap.size w w' := by
  have u0 : U 0 := by unfold U; omega
  have hs := refSub_any 0 0 h l u0 u0 u v
  rw [num_zero, Nat.zero_add] at hs
  have HS := Lib.hid hs
  clear hs
  generalize 340282366920938463463374607431768211456 - num h l = n at *
  go_enter Tryd.func61, Tryd.ntmps61
  refine wp_shut ?_
  go_wp2_with fail
  refine (HS.out _).mono ?_
  rintro e w1 ⟨rfl, hb⟩
  obtain ⟨hc, hf⟩ := bcell hb
  have hz : w.heap.size + 1 < w1.heap.size := by have := hb.size; simp at this; omega
  have HB := Lib.hid hb
  clear hb
  go_wp2
  refine shut_ret (v := .agg #[.int .u64 (hi n), .int .u64 (lo n)]) (by simp [results, Tryd.results61, go_sem, hc, hz]) rfl ⟨rfl, ?_⟩
  have hB1 : Below w.heap.size w w1 := (below2 w _ _).trans (HB.out.mono (by simp; omega))
  go_grown
def sgn (l : Nat) : Int := IntKind.i64.wrap l
def intOk (h l : Nat) : Bool := ofH (sgn l) == h
set_option maxHeartbeats 1000000 in
set_option maxRecDepth 100000 in
theorem refInt_any (h l : Nat) (u : U h) (v : U l) (w : World) :
    Calls Tryd.prog 46 #[.agg #[.int .u64 h, .int .u64 l]] w fun e w' => e = .returned (.tuple #[.int .i64 (if intOk h l then sgn l else 0), .int .i64 (if intOk h l then 0 else 8)]) ∧ Below w.heap.size w w' := by
  have hL : ofL (sgn l) = l := by unfold ofL sgn; rw [IntKind.wrap_i64]; unfold U at v; omega
  obtain ⟨x, hx⟩ : ∃ x, Hid (sgn l = x) := ⟨_, rfl⟩
  have hw : IntKind.i64.wrap (l : Int) = x := hx.out
  have ho := refOf_any x
  rw [show ofL x = l by rw [← hx.out]; exact hL] at ho
  have HO := Lib.hid ho
  clear ho hL
  have hI : intOk h l = (ofH x == h) := by unfold intOk; rw [hx.out]
  rw [hI, hx.out]
  clear hI
  generalize ofH x = y at *
  obtain ⟨W0, hW0⟩ : ∃ W0, W0 = w.alloc (Obj.cells #[Value.int IntKind.u64 ↑h, Value.int IntKind.u64 ↑l] 66) := ⟨_, rfl⟩
  have c1 : W0.cell? ⟨w.heap.size, 0, none⟩ = some (.int .u64 h) := by rw [hW0]; simp [go_sem]
  have c2 : W0.cell? ⟨w.heap.size, 1, none⟩ = some (.int .u64 l) := by rw [hW0]; simp [go_sem]
  have hs0 : w.heap.size < W0.heap.size := by rw [hW0]; simp
  have hB0 : Below w.heap.size w W0 := by rw [hW0]; exact (Below.refl _ _).alloc (Nat.le_refl _) _
  have HB0 := Lib.hid hB0
  have HW0 := Lib.hid hW0
  clear hB0 hW0
  by_cases hy : y = h
  · subst hy
    have hyy : (y == y) = true := by simp
    go_enter Tryd.func46, Tryd.ntmps46
    go_wp2_with fail
    rw [← HW0.out]
    go_region_held3 (fun w' => Below W0.heap.size W0 w' ∧ w'.cell? ⟨w.heap.size, 0, none⟩ = some (.int .u64 y) ∧ w'.cell? ⟨w.heap.size, 1, none⟩ = some (.int .u64 l))
    (first
      | ((try go_split_ands); refine ⟨(Below.refl _ _).drew, ?_, ?_⟩ <;> first | assumption | (rw [World.cell?_drew]; assumption))
      | ((try go_split_ands); refine ⟨keepS (W0 := W0) ?_ hb1, cellS (W0 := W0) ?_ hb1 ?_ ?_, cellS (W0 := W0) ?_ hb1 ?_ ?_⟩ <;> first | assumption | omega)
      | ((try go_split_ands); refine ⟨keepA (W0 := W0) ?_ _, cellA (W0 := W0) ?_ _ ?_ ?_, cellA (W0 := W0) ?_ _ ?_ ?_⟩ <;> first | assumption | omega)
      | ((try go_split_ands); refine ⟨keepAd (W0 := W0) ?_ _, cellAd (W0 := W0) ?_ _ ?_ ?_, cellAd (W0 := W0) ?_ _ ?_ ?_⟩ <;> first | assumption | omega | exact Below.refl _ _))
    (first | (go_at_call 45; refine (HO.out _).mono ?_; rintro e w1 ⟨rfl, hb1⟩))
    go_split_ands
    have HB1 := Lib.hid (HB0.out.trans (((Below.refl W0.heap.size W0).drew.trans hb1).mono (by omega)))
    go_wp2
    go_ret2
    exact ⟨by simp, HB1.out⟩
  · have hyy : (y == h) = false := by simpa using hy
    have hyc : ((y : Int) == (h : Int)) = false := by rw [beq_eq_false_iff_ne]; omega
    go_enter Tryd.func46, Tryd.ntmps46
    go_wp2_with fail
    rw [← HW0.out]
    go_region_held3 (fun w' => Below W0.heap.size W0 w' ∧ w'.cell? ⟨w.heap.size, 0, none⟩ = some (.int .u64 h) ∧ w'.cell? ⟨w.heap.size, 1, none⟩ = some (.int .u64 l))
    (first
      | ((try go_split_ands); refine ⟨(Below.refl _ _).drew, ?_, ?_⟩ <;> first | assumption | (rw [World.cell?_drew]; assumption))
      | ((try go_split_ands); refine ⟨keepS (W0 := W0) ?_ hb1, cellS (W0 := W0) ?_ hb1 ?_ ?_, cellS (W0 := W0) ?_ hb1 ?_ ?_⟩ <;> first | assumption | omega)
      | ((try go_split_ands); refine ⟨keepA (W0 := W0) ?_ _, cellA (W0 := W0) ?_ _ ?_ ?_, cellA (W0 := W0) ?_ _ ?_ ?_⟩ <;> first | assumption | omega)
      | ((try go_split_ands); refine ⟨keepAd (W0 := W0) ?_ _, cellAd (W0 := W0) ?_ _ ?_ ?_, cellAd (W0 := W0) ?_ _ ?_ ?_⟩ <;> first | assumption | omega | exact Below.refl _ _))
    (first | (go_at_call 45; refine (HO.out _).mono ?_; rintro e w1 ⟨rfl, hb1⟩))
    go_split_ands
    have HB1 := Lib.hid (HB0.out.trans (((Below.refl W0.heap.size W0).drew.trans hb1).mono (by omega)))
    go_wp2
    go_ret2
    exact ⟨by simp, HB1.out⟩
end Go.Proofs.YtoopbgpoelpjfaaDoor
