/- Contract of package wide: digits as a number. -/
import Derived.Test.YtlpbkdihjpceoaaParseB
namespace Go.Proofs.Ytlpbkdihjpceoaa
set_option linter.unusedVariables false
open Go.ChangeShapes Go.WideShapes Go.ChangeAt Go.RowKit

def val10 (t : List UInt8) : Nat := t.foldl (fun a c => a * 10 + (c.toNat - 48)) 0
theorem val10_succ (L : List UInt8) (i : Nat) (h : i < L.length) : val10 (L.take (i + 1)) = val10 (L.take i) * 10 + ((L.getD i 0).toNat - 48) := by
  unfold val10
  rw [List.take_succ_eq_append_getElem h, List.foldl_append]
  simp [List.getD, List.getElem?_eq_getElem h]
theorem val10_mono (a : List UInt8) (b : List UInt8) : val10 a ≤ val10 (a ++ b) := by
  unfold val10
  rw [List.foldl_append]
  generalize a.foldl (fun a c => a * 10 + (c.toNat - 48)) 0 = x
  induction b generalizing x with
  | nil => exact Nat.le_refl _
  | cons c b ih => rw [List.foldl_cons]; exact Nat.le_trans (by omega) (ih _)
theorem val10_take (L : List UInt8) (i : Nat) : val10 (L.take i) ≤ val10 L := by
  conv => rhs; rw [← List.take_append_drop i L]
  exact val10_mono _ _
/-- what the digits are worth, or 0 where that is none of 128 bits; whether it is one. -/
def uvN (t : List UInt8) : Nat := if val10 t < 340282366920938463463374607431768211456 then val10 t else 0
def uvB (t : List UInt8) : Bool := decide (val10 t < 340282366920938463463374607431768211456)
theorem uvN_lt (t : List UInt8) : uvN t < 340282366920938463463374607431768211456 := by unfold uvN; split <;> omega
structure Ust (s : Nat) (L : List UInt8) (x y : Nat) (w wr : World) : Prop where
  z : wr.heap[s]? = some (.cells #[.int .u64 0, .int .u64 0] 24 (0, 0))
  x : wr.heap[s + 1]? = some (.cells #[.int .u64 x, .int .u64 y] 24 (0, 0))
  c : ∀ j, j < L.length → wr.cell? ⟨s + 1 + 1, j, none⟩ = some (.int .u8 ((L.getD j 0).toNat : Int))
  n : s + 1 + 1 < wr.heap.size
  b : Below s w wr
theorem Ust.call {s : Nat} {L : List UInt8} {x y : Nat} {w wr w1 : World} (t : Ust s L x y w wr) (hb : Below wr.heap.size wr w1) : Ust s L x y w w1 := by
  have hn := t.n
  exact ⟨row_call hb t.z, row_call hb t.x, fun j hj => by rw [hb.cell (p := ⟨s + 1 + 1, j, none⟩) hn]; exact t.c j hj, Nat.lt_of_lt_of_le hn hb.size, t.b.trans (hb.mono (by omega))⟩
theorem Ust.setX {s : Nat} {L : List UInt8} {x y : Nat} {w wr : World} (t : Ust s L x y w wr) (p q : Nat) : Ust s L p q w ((wr.setCell ⟨s + 1, 0, none⟩ (.int .u64 p)).setCell ⟨s + 1, 1, none⟩ (.int .u64 q)) := by
  refine ⟨?_, row_set t.x _ _, fun j hj => ?_, by simp [World.setCell]; exact t.n, (t.b.setCell (by show s ≤ s + 1; omega) _).setCell (by show s ≤ s + 1; omega) _⟩
  · rw [Below.heap_setCell _ _ _ _ (by show s ≠ s + 1; omega), Below.heap_setCell _ _ _ _ (by show s ≠ s + 1; omega)]; exact t.z
  · rw [← t.c j hj]
    have h1 : ((wr.setCell ⟨s + 1, 0, none⟩ (.int .u64 p)).setCell ⟨s + 1, 1, none⟩ (.int .u64 q)).heap[s + 1 + 1]? = wr.heap[s + 1 + 1]? := by
      rw [Below.heap_setCell _ _ _ _ (by show s + 1 + 1 ≠ s + 1; omega), Below.heap_setCell _ _ _ _ (by show s + 1 + 1 ≠ s + 1; omega)]
    unfold World.cell?
    simp only [h1]

set_option maxHeartbeats 800000 in
set_option maxRecDepth 100000 in
theorem unsigned_any (s : ByteArray) (hs : s.size ≤ 64) (hd : s.data.toList.all isd = true) (w : World) :
    Calls Try.prog 35 #[.string s] w fun e w' => e = .returned (.tuple #[.agg #[.int .u64 (hi (uvN s.data.toList)), .int .u64 (lo (uvN s.data.toList))], .bool (uvB s.data.toList)]) ∧ Below w.heap.size w w' := by
  have hcv := fun W => Lib.run_convert_string_bytes (P := Try.prog) W 9 65 5 s Try.underlying9 Try.underlying65 Try.underlying5
  have HN : Hid (s.size = s.data.toList.length) := Lib.size_eq s
  have HDD := Lib.hid hd
  clear hd
  go_enter Try.func35, Try.ntmps35
  go_wp2
  have HU : Hid (Ust w.heap.size s.data.toList 0 0 w (Lib.bytesWorld ((w.alloc (Obj.cells #[Value.int IntKind.u64 0, Value.int IntKind.u64 0] 24)).alloc (Obj.cells #[Value.int IntKind.u64 0, Value.int IntKind.u64 0] 24)) 5 s)) := by
    refine ⟨?_, ?_, fun j hj => ?_, ?_, ?_⟩
    · rw [Lib.bytesWorld_at_old _ _ _ _ (by simp; omega)]; simpa using heap_alloc2_old w _ _
    · rw [Lib.bytesWorld_at_old _ _ _ _ (by simp)]; simpa using heap_alloc_new (w.alloc _) _
    · simpa using Lib.bytesWorld_cell ((w.alloc (Obj.cells #[Value.int IntKind.u64 0, Value.int IntKind.u64 0] 24)).alloc (Obj.cells #[Value.int IntKind.u64 0, Value.int IntKind.u64 0] 24)) 5 s j (by rw [HN.out]; exact hj)
    · rw [Lib.bytesWorld_size]; simp
    · exact (below2 w _ _).trans ((below_bytes _ _ _).mono (by simp; omega))
  obtain ⟨V, HV⟩ : ∃ V, Hid (val10 s.data.toList = V) := ⟨_, rfl⟩
  generalize Lib.bytesWorld ((w.alloc (Obj.cells #[Value.int IntKind.u64 0, Value.int IntKind.u64 0] 24)).alloc (Obj.cells #[Value.int IntKind.u64 0, Value.int IntKind.u64 0] 24)) 5 s = W1 at *
  clear hcv
  go_loopw [11] (fun s11 wr => ∃ i x y : Nat, i ≤ s.size ∧ s11 = .int .i64 i ∧ Hid (U x ∧ U y ∧ num x y = val10 (s.data.toList.take i)) ∧ Ust w.heap.size s.data.toList x y w wr) (fun s11 _ => s.size - (intOf s11).toNat)
  case atStart => exact ⟨0, 0, 0, by omega, rfl, ⟨by unfold U; omega, by unfold U; omega, by rw [num_zero]; rfl⟩, HU.out⟩
  case round =>
    obtain ⟨i, x, y, hil, rfl, HI, hX⟩ := hrel
    clear HU
    by_cases hlt : i < s.size
    · have hcell := hX.c i (by rw [← HN.out]; exact hlt)
      have hsucc := val10_succ s.data.toList i (by rw [← HN.out]; exact hlt)
      have hdi : isd (s.data.toList.getD i 0) = true := by
        have hd := HDD.out
        rw [List.all_eq_true] at hd
        have hlt' : i < s.data.toList.length := by rw [← HN.out]; exact hlt
        simp only [List.getD, List.getElem?_eq_getElem hlt', Option.getD_some]
        exact hd _ (List.getElem_mem hlt')
      have hdd : 48 ≤ (s.data.toList.getD i 0).toNat ∧ (s.data.toList.getD i 0).toNat ≤ 57 := by
        unfold isd at hdi; rw [Bool.and_eq_true, decide_eq_true_eq, decide_eq_true_eq] at hdi; exact hdi
      generalize (s.data.toList.getD i 0).toNat = cn at *
      obtain ⟨d, HD⟩ : ∃ d, Hid (d = cn - 48) := ⟨_, rfl⟩
      have fd : (cn : Int) - 48 = (d : Int) := by rw [HD.out]; omega
      have hd10 : d < 10 := by rw [HD.out]; omega
      have hlo : 48 ≤ cn := hdd.1
      have hhi : cn ≤ 57 := hdd.2
      have hg := grow_any x y d HI.out.1 HI.out.2.1 hd10
      rw [← HD.out] at hsucc
      obtain ⟨v, Hv⟩ : ∃ v, Hid (num x y * 10 + d = v) := ⟨_, rfl⟩
      rw [Hv.out] at hg
      have HS : Hid (v = val10 (s.data.toList.take (i + 1))) := by show _ = _; rw [← Hv.out, hsucc, ← HI.out.2.2]
      have hle := val10_take s.data.toList (i + 1)
      rw [← HS.out, HV.out] at hle
      have HLE := Lib.hid hle
      have k0 : wr.cell? ⟨w.heap.size + 1, 0, none⟩ = some (.int .u64 x) := cell_of_row _ _ _ _ _ _ hX.x
      have k1 : wr.cell? ⟨w.heap.size + 1, 1, none⟩ = some (.int .u64 y) := cell_of_row _ _ _ _ _ _ hX.x
      have HX := Lib.hid hX
      clear hX hsucc hdi hdd hle
      by_cases hv : v < 340282366920938463463374607431768211456
      · rw [decide_eq_true hv] at hg
        have HG := Lib.hid hg
        have HLT := Lib.hid hv
        clear hg hv
        go_wp2_with fail
        refine (HG.out _).mono ?_
        rintro e w2 ⟨rfl, hb2⟩
        have X2 := Lib.hid (HX.out.call hb2)
        have k0' : w2.cell? ⟨w.heap.size + 1, 0, none⟩ = some (.int .u64 x) := cell_of_row _ _ _ _ _ _ X2.out.x
        have k1' : w2.cell? ⟨w.heap.size + 1, 1, none⟩ = some (.int .u64 y) := cell_of_row _ _ _ _ _ _ X2.out.x
        have f0 : w2.frozen? ⟨w.heap.size + 1, 0, none⟩ = false := by simp [World.frozen?, X2.out.x]
        have f1 : w2.frozen? ⟨w.heap.size + 1, 1, none⟩ = false := by simp [World.frozen?, X2.out.x]
        clear hb2 k0 k1 hcell
        go_simp
        go_wp2
        go_roundw
        case rel => exact ⟨i + 1, hi v, lo v, by omega, by go_num, ⟨hi_U _, lo_U _, by rw [num_hl_of HLT.out]; exact HS.out⟩, X2.out.setX _ _⟩
        case measure => simp [intOf]; omega
      · rw [decide_eq_false hv] at hg
        have HG := Lib.hid hg
        have HF : Hid (¬ V < 340282366920938463463374607431768211456) := by show ¬ _; have := HLE.out; omega
        clear hg hv
        go_wp2_with fail
        refine (HG.out _).mono ?_
        rintro e w2 ⟨rfl, hb2⟩
        have X2 := Lib.hid (HX.out.call hb2)
        have k0' : w2.cell? ⟨w.heap.size + 1, 0, none⟩ = some (.int .u64 x) := cell_of_row _ _ _ _ _ _ X2.out.x
        have k1' : w2.cell? ⟨w.heap.size + 1, 1, none⟩ = some (.int .u64 y) := cell_of_row _ _ _ _ _ _ X2.out.x
        have f0 : w2.frozen? ⟨w.heap.size + 1, 0, none⟩ = false := by simp [World.frozen?, X2.out.x]
        have f1 : w2.frozen? ⟨w.heap.size + 1, 1, none⟩ = false := by simp [World.frozen?, X2.out.x]
        have j0 : w2.cell? ⟨w.heap.size, 0, none⟩ = some (.int .u64 0) := cell_of_row _ _ _ _ _ _ X2.out.z
        have j1 : w2.cell? ⟨w.heap.size, 1, none⟩ = some (.int .u64 0) := cell_of_row _ _ _ _ _ _ X2.out.z
        have g0 : w2.frozen? ⟨w.heap.size, 0, none⟩ = false := by simp [World.frozen?, X2.out.z]
        have g1 : w2.frozen? ⟨w.heap.size, 1, none⟩ = false := by simp [World.frozen?, X2.out.z]
        have HB2 := Lib.hid X2.out.b
        clear hb2 k0 k1 hcell
        go_simp
        go_wp2
        refine bodyPost_ret (v := .tuple #[.agg #[.int .u64 0, .int .u64 0], .bool false]) (by simp [results, Try.results35, go_sem, j0, j1]) rfl ⟨by rw [show uvN s.data.toList = 0 by unfold uvN; rw [HV.out, if_neg HF.out], show uvB s.data.toList = false by unfold uvB; rw [HV.out, decide_eq_false HF.out], show hi 0 = 0 by unfold hi; rfl, show lo 0 = 0 by unfold lo; rfl]; rfl, ?_⟩
        exact ((((HB2.out.setCell (by show w.heap.size ≤ w.heap.size + 1; omega) _).setCell (by show w.heap.size ≤ w.heap.size + 1; omega) _).setCell (Nat.le_refl _) _).setCell (Nat.le_refl _) _)
    · have HE : Hid (num x y = V) := by
        show _ = _; rw [HI.out.2.2, ← HV.out, List.take_of_length_le (by rw [← HN.out]; omega)]
      have HLT : Hid (V < 340282366920938463463374607431768211456) := by rw [← HE.out]; exact num_lt HI.out.1 HI.out.2.1
      have E1 : Hid (hi V = x) := by rw [← HE.out]; exact hi_num HI.out.1 HI.out.2.1
      have E2 : Hid (lo V = y) := by rw [← HE.out]; exact lo_num HI.out.2.1
      have k0 : wr.cell? ⟨w.heap.size + 1, 0, none⟩ = some (.int .u64 x) := cell_of_row _ _ _ _ _ _ hX.x
      have k1 : wr.cell? ⟨w.heap.size + 1, 1, none⟩ = some (.int .u64 y) := cell_of_row _ _ _ _ _ _ hX.x
      have j0 : wr.cell? ⟨w.heap.size, 0, none⟩ = some (.int .u64 0) := cell_of_row _ _ _ _ _ _ hX.z
      have j1 : wr.cell? ⟨w.heap.size, 1, none⟩ = some (.int .u64 0) := cell_of_row _ _ _ _ _ _ hX.z
      have g0 : wr.frozen? ⟨w.heap.size, 0, none⟩ = false := by simp [World.frozen?, hX.z]
      have g1 : wr.frozen? ⟨w.heap.size, 1, none⟩ = false := by simp [World.frozen?, hX.z]
      have HB := Lib.hid hX.b
      clear hX
      go_wp2
      refine bodyPost_ret (v := .tuple #[.agg #[.int .u64 x, .int .u64 y], .bool true]) (by simp [results, Try.results35, go_sem, j0, j1]) rfl ⟨by rw [show uvN s.data.toList = V by unfold uvN; rw [HV.out, if_pos HLT.out], show uvB s.data.toList = true by unfold uvB; rw [HV.out, decide_eq_true HLT.out], E1.out, E2.out], ?_⟩
      exact (HB.out.setCell (Nat.le_refl _) _).setCell (Nat.le_refl _) _
end Go.Proofs.Ytlpbkdihjpceoaa
