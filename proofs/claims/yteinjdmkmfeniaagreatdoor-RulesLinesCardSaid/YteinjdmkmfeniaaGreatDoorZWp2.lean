/- Several texts in one: WpF, WpT. -/
import Derived.Test.YteinjdmkmfeniaaGreatDoorZCt1
import Derived.Test.YteinjdmkmfeniaaGreatDoorZWp1
import Derived.Test.YteinjdmkmfeniaaGreatDoorZTab1
import Derived.Test.YteinjdmkmfeniaaGreatDoorZShaped1
namespace Go.Proofs.YteinjdmkmfeniaaGreatDoor
set_option linter.unusedVariables false
set_option linter.unusedSimpArgs false
open Go.ChangeShapes Go.WideShapes Go.ChangeAt Go.RowKit
theorem mk_bs (l : List UInt8) : (⟨l.toArray⟩ : ByteArray) = bs l := by unfold bs; rfl
theorem pCut_any (L S : List UInt8) (hL : L.length ≤ 100000) (w : World) (hM : TW w) : Calls Tryz.prog 82 #[.string (bs L), .string (bs S)] w fun e w' => e = .returned (.tuple #[.string (bs (Lib.cut L S).1), .string (bs (Lib.cut L S).2.1), .bool (Lib.cut L S).2.2]) ∧ Below w.heap.size w w' := by
  obtain ⟨m, hm⟩ := hM.ml.cell
  have H := Tryz.strings_Cut (bs L) (bs S) m w (by rw [bs_size]; omega) hm
  rw [bs_toList, bs_toList, mk_bs, mk_bs] at H
  refine H.mono ?_
  rintro e w' ⟨rfl, n, rfl⟩
  exact ⟨rfl, dwn (Below.refl _ _) n⟩
theorem cutFrom_any (L : List UInt8) (hL : L.length ≤ 100000) (w : World) (hM : TW w) : Calls Tryz.prog 82 #[.string (bs L), .string ⟨#[62, 61]⟩] w fun e w' => e = .returned (.tuple #[.string (bs (Lib.cut L [62, 61]).1), .string (bs (Lib.cut L [62, 61]).2.1), .bool (Lib.cut L [62, 61]).2.2]) ∧ Below w.heap.size w w' := by
  have H := pCut_any L [62, 61] hL w hM
  rw [lit_of #[62, 61] [62, 61] rfl] at H
  exact H
theorem cutBef_any (L : List UInt8) (hL : L.length ≤ 100000) (w : World) (hM : TW w) : Calls Tryz.prog 82 #[.string (bs L), .string ⟨#[60, 61]⟩] w fun e w' => e = .returned (.tuple #[.string (bs (Lib.cut L [60, 61]).1), .string (bs (Lib.cut L [60, 61]).2.1), .bool (Lib.cut L [60, 61]).2.2]) ∧ Below w.heap.size w w' := by
  have H := pCut_any L [60, 61] hL w hM
  rw [lit_of #[60, 61] [60, 61] rfl] at H
  exact H
theorem pWeekday14_any (t : List UInt8) (w : World) (hM : TW w) : Calls Tryz.prog 80 #[.string (bs t)] w fun e w' => e = .returned (.tuple #[.int .i64 (wkdI t), .int .i64 (wdE t)]) ∧ Below w.heap.size w w' := grow2 (pWeekday14_p t w hM.dn)
theorem pSecsW_any (y m d h i s n : Int) (w : World) (hM : TW w) : Calls Tryz.prog 87 #[.agg #[.int .i64 y, .int .i64 m, .int .i64 d, .int .i64 h, .int .i64 i, .int .i64 s, .int .i64 n]] w fun e w' => e = .returned (.tuple #[.int .i64 (seT y m d h i s n), .int .i64 (ckT y m d h i s n)]) ∧ Below w.heap.size w w' := ptSecs_any y m d h i s n w hM.tb
def unR (E k n x : Int) : Int × Int × Int × Int := if E = 0 then (k, n, x, 0) else (0, 0, 0, E)
set_option maxHeartbeats 1600000 in
set_option maxRecDepth 100000 in
theorem pUnless_ok (k n x : Int) (w : World) : Calls Tryz.prog 81 #[.int .i64 0, .agg #[.int .i64 k, .int .i64 n, .int .i64 x]] w fun e w' => e = .returned (.tuple #[.agg #[.int .i64 k, .int .i64 n, .int .i64 x], .int .i64 0]) ∧ Below w.heap.size w w' := by
  go_enter Tryz.func81, Tryz.ntmps81
  refine wp_shut ?_
  go_wp2
  refine shut_ret (v := .tuple #[.agg #[.int .i64 k, .int .i64 n, .int .i64 x], .int .i64 0]) (by simp [results, Tryz.results81, go_sem]) rfl ⟨rfl, by go_grown⟩
set_option maxHeartbeats 1600000 in
set_option maxRecDepth 100000 in
theorem pUnless_no (E k n x : Int) (hE : E ≠ 0) (w : World) : Calls Tryz.prog 81 #[.int .i64 E, .agg #[.int .i64 k, .int .i64 n, .int .i64 x]] w fun e w' => e = .returned (.tuple #[.agg #[.int .i64 0, .int .i64 0, .int .i64 0], .int .i64 E]) ∧ Below w.heap.size w w' := by
  have q : (E == 0) = false := beq_eq_false_iff_ne.2 hE
  replace hE := Lib.hid hE
  go_enter Tryz.func81, Tryz.ntmps81
  refine wp_shut ?_
  go_wp2
  refine shut_ret (v := .tuple #[.agg #[.int .i64 0, .int .i64 0, .int .i64 0], .int .i64 E]) (by simp [results, Tryz.results81, go_sem]) rfl ⟨rfl, by go_grown⟩
theorem pUnless_any (E k n x : Int) (w : World) : Calls Tryz.prog 81 #[.int .i64 E, .agg #[.int .i64 k, .int .i64 n, .int .i64 x]] w fun e w' => e = .returned (.tuple #[.agg #[.int .i64 (unR E k n x).1, .int .i64 (unR E k n x).2.1, .int .i64 (unR E k n x).2.2.1], .int .i64 (unR E k n x).2.2.2]) ∧ Below w.heap.size w w' := by
  by_cases h : E = 0
  · subst h; exact pUnless_ok k n x w
  · have e : unR E k n x = (0, 0, 0, E) := if_neg h
    rw [e]; exact pUnless_no E k n x h w
theorem bnd_un {a b : List UInt8} {k : Int} (h : wkdI a ≠ 0) : bndR k a b = unR (numE b 1 31) k (numV b 1 31) (wkdI a) := by
  by_cases h2 : numE b 1 31 = 0
  · rw [bnd_ok h h2]; exact (if_pos h2).symm
  · rw [bnd_err h h2]; exact (if_neg h2).symm
set_option maxHeartbeats 3200000 in
set_option maxRecDepth 100000 in
theorem pBound_any (k : Int) (a b : List UInt8) (hb : b.length ≤ 100000) (w : World) (hM : TW w) : Calls Tryz.prog 83 #[.int .i64 k, .string (bs a), .string (bs b)] w fun e w' => e = .returned (.tuple #[.agg #[.int .i64 (bndR k a b).1, .int .i64 (bndR k a b).2.1, .int .i64 (bndR k a b).2.2.1], .int .i64 (bndR k a b).2.2.2]) ∧ Below w.heap.size w w' := by
  have X1 := pWeekday14_any a
  by_cases h : wkdI a = 0
  · rw [bnd_no h]
    have e : wdE a = 2 := if_pos h
    rw [e] at X1
    have H1 := Lib.hid X1
    clear X1 e h
    replace hM := Lib.hid hM
    generalize wkdI a = x at *
    go_enter Tryz.func83, Tryz.ntmps83
    refine wp_shut ?_
    go_wp2_with fail
    
    refine (H1.out _ (by first | exact tw_keep hM ((Below.refl w.heap.size w).alloc (Nat.le_refl _) _))).mono ?_
    rintro e V1 ⟨rfl, hb1⟩
    have B1 := Lib.hid (((Below.refl w.heap.size w).alloc (Nat.le_refl _) _).trans (hb1.mono (by first | assumption | (simp <;> omega) | (simp; done))))
    have Z1 := Lib.hid (row_call hb1 (heap_alloc_new _ _))
    clear hb1
    have Z1_0 : V1.cell? ⟨w.heap.size, 0, none⟩ = some (.int .i64 0) := cell_of_row _ _ _ _ _ _ Z1.out
    have Z1_1 : V1.cell? ⟨w.heap.size, 1, none⟩ = some (.int .i64 0) := cell_of_row _ _ _ _ _ _ Z1.out
    have Z1_2 : V1.cell? ⟨w.heap.size, 2, none⟩ = some (.int .i64 0) := cell_of_row _ _ _ _ _ _ Z1.out
    have Z1_f0 : V1.frozen? ⟨w.heap.size, 0, none⟩ = false := by simp [World.frozen?, Z1.out]
    have Z1_f1 : V1.frozen? ⟨w.heap.size, 1, none⟩ = false := by simp [World.frozen?, Z1.out]
    have Z1_f2 : V1.frozen? ⟨w.heap.size, 2, none⟩ = false := by simp [World.frozen?, Z1.out]
    have zZ1 := lt_of_heap Z1.out
    go_simp
    go_wp2
    refine shut_ret (v := .tuple #[.agg #[.int .i64 0, .int .i64 0, .int .i64 0], .int .i64 2]) (by simp [results, Tryz.results83, go_sem, zZ1, Z1_0, Z1_1, Z1_2]) rfl ⟨rfl, ?_⟩
    first | exact B1.out | exact keep3 B1.out (Nat.le_refl _) _ _ _ | exact keepA (keep3 B1.out (Nat.le_refl _) _ _ _) _
  · rw [bnd_un h]
    have e : wdE a = 0 := if_neg h
    rw [e] at X1
    have H1 := Lib.hid X1
    have H2 := Lib.hid (pNum14_any b 1 31 hb)
    have H3 := Lib.hid (pUnless_any (numE b 1 31) k (numV b 1 31) (wkdI a))
    clear X1 e h
    replace hM := Lib.hid hM
    generalize unR (numE b 1 31) k (numV b 1 31) (wkdI a) = R at *
    generalize numE b 1 31 = ne at *
    generalize numV b 1 31 = nv at *
    generalize wkdI a = x at *
    go_enter Tryz.func83, Tryz.ntmps83
    refine wp_shut ?_
    go_wp2_with fail
    
    refine (H1.out _ (by first | exact tw_keep hM ((Below.refl w.heap.size w).alloc (Nat.le_refl _) _))).mono ?_
    rintro e V1 ⟨rfl, hb1⟩
    have B1 := Lib.hid (((Below.refl w.heap.size w).alloc (Nat.le_refl _) _).trans (hb1.mono (by first | assumption | (simp <;> omega) | (simp; done))))
    have Z1 := Lib.hid (row_call hb1 (heap_alloc_new _ _))
    clear hb1
    have Z1_0 : V1.cell? ⟨w.heap.size, 0, none⟩ = some (.int .i64 0) := cell_of_row _ _ _ _ _ _ Z1.out
    have Z1_1 : V1.cell? ⟨w.heap.size, 1, none⟩ = some (.int .i64 0) := cell_of_row _ _ _ _ _ _ Z1.out
    have Z1_2 : V1.cell? ⟨w.heap.size, 2, none⟩ = some (.int .i64 0) := cell_of_row _ _ _ _ _ _ Z1.out
    have Z1_f0 : V1.frozen? ⟨w.heap.size, 0, none⟩ = false := by simp [World.frozen?, Z1.out]
    have Z1_f1 : V1.frozen? ⟨w.heap.size, 1, none⟩ = false := by simp [World.frozen?, Z1.out]
    have Z1_f2 : V1.frozen? ⟨w.heap.size, 2, none⟩ = false := by simp [World.frozen?, Z1.out]
    have zZ1 := lt_of_heap Z1.out
    go_simp
    go_wp2_with fail
    refine (H2.out _).mono ?_
    rintro e V2 ⟨rfl, hb2⟩
    clear Z1_0 Z1_1 Z1_2 Z1_f0 Z1_f1 Z1_f2 zZ1
    have B2 : Hid (Below w.heap.size w V2) := by first | exact Lib.hid ((B1.out).trans (hb2.mono (by have := B1.out.size; first | assumption | (simp <;> omega) | (simp; done)))) | exact Lib.hid (((B1.out).alloc (B1.out.size) _).trans (hb2.mono (by have := B1.out.size; first | assumption | (simp <;> omega) | (simp; done)))) | exact Lib.hid ((((B1.out).alloc (B1.out.size) _).alloc (by have := B1.out.size; simp <;> omega) _).trans (hb2.mono (by have := B1.out.size; first | assumption | (simp <;> omega) | (simp; done)))) | exact Lib.hid (((((B1.out).alloc (B1.out.size) _).alloc (by have := B1.out.size; simp <;> omega) _).alloc (by have := B1.out.size; simp <;> omega) _).trans (hb2.mono (by have := B1.out.size; first | assumption | (simp <;> omega) | (simp; done))))
    first | replace Z1 := Lib.hid (row_call hb2 Z1.out) | replace Z1 := Lib.hid (row_call hb2 (row_alloc Z1.out _)) | replace Z1 := Lib.hid (row_call hb2 (row_alloc (row_alloc Z1.out _) _)) | replace Z1 := Lib.hid (row_call hb2 (row_alloc (row_alloc (row_alloc Z1.out _) _) _))
    clear hb2
    have Z1_0 : V2.cell? ⟨w.heap.size, 0, none⟩ = some (.int .i64 0) := cell_of_row _ _ _ _ _ _ Z1.out
    have Z1_1 : V2.cell? ⟨w.heap.size, 1, none⟩ = some (.int .i64 0) := cell_of_row _ _ _ _ _ _ Z1.out
    have Z1_2 : V2.cell? ⟨w.heap.size, 2, none⟩ = some (.int .i64 0) := cell_of_row _ _ _ _ _ _ Z1.out
    have Z1_f0 : V2.frozen? ⟨w.heap.size, 0, none⟩ = false := by simp [World.frozen?, Z1.out]
    have Z1_f1 : V2.frozen? ⟨w.heap.size, 1, none⟩ = false := by simp [World.frozen?, Z1.out]
    have Z1_f2 : V2.frozen? ⟨w.heap.size, 2, none⟩ = false := by simp [World.frozen?, Z1.out]
    have zZ1 := lt_of_heap Z1.out
    go_simp
    go_wp2_with fail
    refine (H3.out _).mono ?_
    rintro e V3 ⟨rfl, hb3⟩
    clear Z1_0 Z1_1 Z1_2 Z1_f0 Z1_f1 Z1_f2 zZ1
    have B3 : Hid (Below w.heap.size w V3) := by first | exact Lib.hid ((B2.out).trans (hb3.mono (by have := B2.out.size; first | assumption | (simp <;> omega) | (simp; done)))) | exact Lib.hid (((B2.out).alloc (B2.out.size) _).trans (hb3.mono (by have := B2.out.size; first | assumption | (simp <;> omega) | (simp; done)))) | exact Lib.hid ((((B2.out).alloc (B2.out.size) _).alloc (by have := B2.out.size; simp <;> omega) _).trans (hb3.mono (by have := B2.out.size; first | assumption | (simp <;> omega) | (simp; done)))) | exact Lib.hid (((((B2.out).alloc (B2.out.size) _).alloc (by have := B2.out.size; simp <;> omega) _).alloc (by have := B2.out.size; simp <;> omega) _).trans (hb3.mono (by have := B2.out.size; first | assumption | (simp <;> omega) | (simp; done))))
    first | replace Z1 := Lib.hid (row_call hb3 Z1.out) | replace Z1 := Lib.hid (row_call hb3 (row_alloc Z1.out _)) | replace Z1 := Lib.hid (row_call hb3 (row_alloc (row_alloc Z1.out _) _)) | replace Z1 := Lib.hid (row_call hb3 (row_alloc (row_alloc (row_alloc Z1.out _) _) _))
    clear hb3
    have Z1_0 : V3.cell? ⟨w.heap.size, 0, none⟩ = some (.int .i64 0) := cell_of_row _ _ _ _ _ _ Z1.out
    have Z1_1 : V3.cell? ⟨w.heap.size, 1, none⟩ = some (.int .i64 0) := cell_of_row _ _ _ _ _ _ Z1.out
    have Z1_2 : V3.cell? ⟨w.heap.size, 2, none⟩ = some (.int .i64 0) := cell_of_row _ _ _ _ _ _ Z1.out
    have Z1_f0 : V3.frozen? ⟨w.heap.size, 0, none⟩ = false := by simp [World.frozen?, Z1.out]
    have Z1_f1 : V3.frozen? ⟨w.heap.size, 1, none⟩ = false := by simp [World.frozen?, Z1.out]
    have Z1_f2 : V3.frozen? ⟨w.heap.size, 2, none⟩ = false := by simp [World.frozen?, Z1.out]
    have zZ1 := lt_of_heap Z1.out
    go_simp
    go_wp2
    refine shut_ret (v := .tuple #[.agg #[.int .i64 R.1, .int .i64 R.2.1, .int .i64 R.2.2.1], .int .i64 R.2.2.2]) (by simp [results, Tryz.results83, go_sem, zZ1, Z1_0, Z1_1, Z1_2]) rfl ⟨rfl, ?_⟩
    first | exact keep3 B3.out (Nat.le_refl _) _ _ _ | exact keepA (keep3 B3.out (Nat.le_refl _) _ _ _) _
set_option maxHeartbeats 3200000 in
set_option maxRecDepth 100000 in
theorem day_l (L : List UInt8) (hL : L.length ≤ 100000) (h : L.take 5 = lastL) (w : World) (hM : TW w) : Calls Tryz.prog 69 #[.string (bs L)] w fun e w' => e = .returned (.tuple #[.agg #[.int .i64 (dayR L).1, .int .i64 (dayR L).2.1, .int .i64 (dayR L).2.2.1], .int .i64 (dayR L).2.2.2]) ∧ Below w.heap.size w w' := by
  have h5 : 5 ≤ L.length := by
    have e := congrArg List.length h
    rw [List.length_take] at e
    have : lastL.length = 5 := rfl
    omega
  have eD : dayR L = unR (wdE (L.drop 5)) 1 0 (wkdI (L.drop 5)) := by
    by_cases hw : wkdI (L.drop 5) = 0
    · rw [day_last0 h5 h hw, show wdE (L.drop 5) = 2 from if_pos hw]; rfl
    · rw [day_last h5 h hw, show wdE (L.drop 5) = 0 from if_neg hw]; rfl
  have X1 := fun w => grow2 (cutLast_p L w)
  have ec : cpL L lastL = L.drop 5 := if_pos h
  rw [ec, decide_eq_true h] at X1
  have H1 := Lib.hid X1
  have H2 := Lib.hid (pWeekday14_any (L.drop 5))
  have H3 := Lib.hid (pUnless_any (wdE (L.drop 5)) 1 0 (wkdI (L.drop 5)))
  rw [eD]
  clear X1 ec h eD h5
  replace hM := Lib.hid hM
  generalize unR (wdE (L.drop 5)) 1 0 (wkdI (L.drop 5)) = R at *
  generalize wdE (L.drop 5) = we at *
  generalize wkdI (L.drop 5) = wv at *
  generalize L.drop 5 = T at *
  go_enter Tryz.func69, Tryz.ntmps69
  refine wp_shut ?_
  go_wp2_with fail
  
  refine (H1.out _).mono ?_
  rintro e V1 ⟨rfl, hb1⟩
  have B1 := Lib.hid (((Below.refl w.heap.size w).alloc (Nat.le_refl _) _).trans (hb1.mono (by first | assumption | (simp <;> omega) | (simp; done))))
  have Z1 := Lib.hid (row_call hb1 (heap_alloc_new _ _))
  clear hb1
  have Z1_0 : V1.cell? ⟨w.heap.size, 0, none⟩ = some (.int .i64 0) := cell_of_row _ _ _ _ _ _ Z1.out
  have Z1_1 : V1.cell? ⟨w.heap.size, 1, none⟩ = some (.int .i64 0) := cell_of_row _ _ _ _ _ _ Z1.out
  have Z1_2 : V1.cell? ⟨w.heap.size, 2, none⟩ = some (.int .i64 0) := cell_of_row _ _ _ _ _ _ Z1.out
  have Z1_f0 : V1.frozen? ⟨w.heap.size, 0, none⟩ = false := by simp [World.frozen?, Z1.out]
  have Z1_f1 : V1.frozen? ⟨w.heap.size, 1, none⟩ = false := by simp [World.frozen?, Z1.out]
  have Z1_f2 : V1.frozen? ⟨w.heap.size, 2, none⟩ = false := by simp [World.frozen?, Z1.out]
  have zZ1 := lt_of_heap Z1.out
  go_simp
  go_wp2_with fail
  refine (H2.out _ (by first | exact tw_keep hM (B1.out) | exact tw_keep hM ((B1.out).alloc (B1.out.size) _) | exact tw_keep hM (((B1.out).alloc (B1.out.size) _).alloc (by have := B1.out.size; simp <;> omega) _) | exact tw_keep hM ((((B1.out).alloc (B1.out.size) _).alloc (by have := B1.out.size; simp <;> omega) _).alloc (by have := B1.out.size; simp <;> omega) _))).mono ?_
  rintro e V2 ⟨rfl, hb2⟩
  clear Z1_0 Z1_1 Z1_2 Z1_f0 Z1_f1 Z1_f2 zZ1
  have B2 : Hid (Below w.heap.size w V2) := by first | exact Lib.hid ((B1.out).trans (hb2.mono (by have := B1.out.size; first | assumption | (simp <;> omega) | (simp; done)))) | exact Lib.hid (((B1.out).alloc (B1.out.size) _).trans (hb2.mono (by have := B1.out.size; first | assumption | (simp <;> omega) | (simp; done)))) | exact Lib.hid ((((B1.out).alloc (B1.out.size) _).alloc (by have := B1.out.size; simp <;> omega) _).trans (hb2.mono (by have := B1.out.size; first | assumption | (simp <;> omega) | (simp; done)))) | exact Lib.hid (((((B1.out).alloc (B1.out.size) _).alloc (by have := B1.out.size; simp <;> omega) _).alloc (by have := B1.out.size; simp <;> omega) _).trans (hb2.mono (by have := B1.out.size; first | assumption | (simp <;> omega) | (simp; done))))
  first | replace Z1 := Lib.hid (row_call hb2 Z1.out) | replace Z1 := Lib.hid (row_call hb2 (row_alloc Z1.out _)) | replace Z1 := Lib.hid (row_call hb2 (row_alloc (row_alloc Z1.out _) _)) | replace Z1 := Lib.hid (row_call hb2 (row_alloc (row_alloc (row_alloc Z1.out _) _) _))
  clear hb2
  have Z1_0 : V2.cell? ⟨w.heap.size, 0, none⟩ = some (.int .i64 0) := cell_of_row _ _ _ _ _ _ Z1.out
  have Z1_1 : V2.cell? ⟨w.heap.size, 1, none⟩ = some (.int .i64 0) := cell_of_row _ _ _ _ _ _ Z1.out
  have Z1_2 : V2.cell? ⟨w.heap.size, 2, none⟩ = some (.int .i64 0) := cell_of_row _ _ _ _ _ _ Z1.out
  have Z1_f0 : V2.frozen? ⟨w.heap.size, 0, none⟩ = false := by simp [World.frozen?, Z1.out]
  have Z1_f1 : V2.frozen? ⟨w.heap.size, 1, none⟩ = false := by simp [World.frozen?, Z1.out]
  have Z1_f2 : V2.frozen? ⟨w.heap.size, 2, none⟩ = false := by simp [World.frozen?, Z1.out]
  have zZ1 := lt_of_heap Z1.out
  go_simp
  go_wp2_with fail
  refine (H3.out _).mono ?_
  rintro e V3 ⟨rfl, hb3⟩
  clear Z1_0 Z1_1 Z1_2 Z1_f0 Z1_f1 Z1_f2 zZ1
  have B3 : Hid (Below w.heap.size w V3) := by first | exact Lib.hid ((B2.out).trans (hb3.mono (by have := B2.out.size; first | assumption | (simp <;> omega) | (simp; done)))) | exact Lib.hid (((B2.out).alloc (B2.out.size) _).trans (hb3.mono (by have := B2.out.size; first | assumption | (simp <;> omega) | (simp; done)))) | exact Lib.hid ((((B2.out).alloc (B2.out.size) _).alloc (by have := B2.out.size; simp <;> omega) _).trans (hb3.mono (by have := B2.out.size; first | assumption | (simp <;> omega) | (simp; done)))) | exact Lib.hid (((((B2.out).alloc (B2.out.size) _).alloc (by have := B2.out.size; simp <;> omega) _).alloc (by have := B2.out.size; simp <;> omega) _).trans (hb3.mono (by have := B2.out.size; first | assumption | (simp <;> omega) | (simp; done))))
  first | replace Z1 := Lib.hid (row_call hb3 Z1.out) | replace Z1 := Lib.hid (row_call hb3 (row_alloc Z1.out _)) | replace Z1 := Lib.hid (row_call hb3 (row_alloc (row_alloc Z1.out _) _)) | replace Z1 := Lib.hid (row_call hb3 (row_alloc (row_alloc (row_alloc Z1.out _) _) _))
  clear hb3
  have Z1_0 : V3.cell? ⟨w.heap.size, 0, none⟩ = some (.int .i64 0) := cell_of_row _ _ _ _ _ _ Z1.out
  have Z1_1 : V3.cell? ⟨w.heap.size, 1, none⟩ = some (.int .i64 0) := cell_of_row _ _ _ _ _ _ Z1.out
  have Z1_2 : V3.cell? ⟨w.heap.size, 2, none⟩ = some (.int .i64 0) := cell_of_row _ _ _ _ _ _ Z1.out
  have Z1_f0 : V3.frozen? ⟨w.heap.size, 0, none⟩ = false := by simp [World.frozen?, Z1.out]
  have Z1_f1 : V3.frozen? ⟨w.heap.size, 1, none⟩ = false := by simp [World.frozen?, Z1.out]
  have Z1_f2 : V3.frozen? ⟨w.heap.size, 2, none⟩ = false := by simp [World.frozen?, Z1.out]
  have zZ1 := lt_of_heap Z1.out
  go_simp
  go_wp2
  refine shut_ret (v := .tuple #[.agg #[.int .i64 R.1, .int .i64 R.2.1, .int .i64 R.2.2.1], .int .i64 R.2.2.2]) (by simp [results, Tryz.results69, go_sem, zZ1, Z1_0, Z1_1, Z1_2]) rfl ⟨rfl, ?_⟩
  first | exact keep3 B3.out (Nat.le_refl _) _ _ _ | exact keepA (keep3 B3.out (Nat.le_refl _) _ _ _) _
theorem index_or (t s : List UInt8) : Lib.index t s = -1 ∨ ∃ i : Nat, Lib.index t s = (i : Int) := by
  rcases Lib.index_spec t s with ⟨h, _⟩ | ⟨i, h, _⟩
  · exact Or.inl h
  · exact Or.inr ⟨i, h⟩
set_option maxHeartbeats 3200000 in
set_option maxRecDepth 100000 in
theorem day_f (L : List UInt8) (hL : L.length ≤ 100000) (h : ¬ L.take 5 = lastL) (i : Nat) (hi : Lib.index L [62, 61] = (i : Int)) (w : World) (hM : TW w) : Calls Tryz.prog 69 #[.string (bs L)] w fun e w' => e = .returned (.tuple #[.agg #[.int .i64 (dayR L).1, .int .i64 (dayR L).2.1, .int .i64 (dayR L).2.2.1], .int .i64 (dayR L).2.2.2]) ∧ Below w.heap.size w w' := by
  have eD := day_first h hi
  have X1 := fun w => grow2 (cutLast_p L w)
  rw [decide_eq_false h] at X1
  have X2 := cutFrom_any L hL
  rw [cut_some hi, show [(62 : UInt8), 61].length = 2 from rfl] at X2
  have H1 := Lib.hid X1
  have H2 := Lib.hid X2
  have H3 := Lib.hid (pBound_any 2 (L.take i) (L.drop (i + 2)) (by simp; omega))
  rw [eD]
  clear X1 X2 h eD hi
  replace hM := Lib.hid hM
  generalize bndR 2 (L.take i) (L.drop (i + 2)) = R at *
  generalize L.take i = Ta at *
  generalize L.drop (i + 2) = Tb at *
  generalize cpL L lastL = Tc at *
  go_enter Tryz.func69, Tryz.ntmps69
  refine wp_shut ?_
  go_wp2_with fail
  
  refine (H1.out _).mono ?_
  rintro e V1 ⟨rfl, hb1⟩
  have B1 := Lib.hid (((Below.refl w.heap.size w).alloc (Nat.le_refl _) _).trans (hb1.mono (by first | assumption | (simp <;> omega) | (simp; done))))
  have Z1 := Lib.hid (row_call hb1 (heap_alloc_new _ _))
  clear hb1
  have Z1_0 : V1.cell? ⟨w.heap.size, 0, none⟩ = some (.int .i64 0) := cell_of_row _ _ _ _ _ _ Z1.out
  have Z1_1 : V1.cell? ⟨w.heap.size, 1, none⟩ = some (.int .i64 0) := cell_of_row _ _ _ _ _ _ Z1.out
  have Z1_2 : V1.cell? ⟨w.heap.size, 2, none⟩ = some (.int .i64 0) := cell_of_row _ _ _ _ _ _ Z1.out
  have Z1_f0 : V1.frozen? ⟨w.heap.size, 0, none⟩ = false := by simp [World.frozen?, Z1.out]
  have Z1_f1 : V1.frozen? ⟨w.heap.size, 1, none⟩ = false := by simp [World.frozen?, Z1.out]
  have Z1_f2 : V1.frozen? ⟨w.heap.size, 2, none⟩ = false := by simp [World.frozen?, Z1.out]
  have zZ1 := lt_of_heap Z1.out
  go_simp
  go_wp2_with fail
  refine (H2.out _ (by first | exact tw_keep hM (B1.out) | exact tw_keep hM ((B1.out).alloc (B1.out.size) _) | exact tw_keep hM (((B1.out).alloc (B1.out.size) _).alloc (by have := B1.out.size; simp <;> omega) _) | exact tw_keep hM ((((B1.out).alloc (B1.out.size) _).alloc (by have := B1.out.size; simp <;> omega) _).alloc (by have := B1.out.size; simp <;> omega) _))).mono ?_
  rintro e V2 ⟨rfl, hb2⟩
  clear Z1_0 Z1_1 Z1_2 Z1_f0 Z1_f1 Z1_f2 zZ1
  have B2 : Hid (Below w.heap.size w V2) := by first | exact Lib.hid ((B1.out).trans (hb2.mono (by have := B1.out.size; first | assumption | (simp <;> omega) | (simp; done)))) | exact Lib.hid (((B1.out).alloc (B1.out.size) _).trans (hb2.mono (by have := B1.out.size; first | assumption | (simp <;> omega) | (simp; done)))) | exact Lib.hid ((((B1.out).alloc (B1.out.size) _).alloc (by have := B1.out.size; simp <;> omega) _).trans (hb2.mono (by have := B1.out.size; first | assumption | (simp <;> omega) | (simp; done)))) | exact Lib.hid (((((B1.out).alloc (B1.out.size) _).alloc (by have := B1.out.size; simp <;> omega) _).alloc (by have := B1.out.size; simp <;> omega) _).trans (hb2.mono (by have := B1.out.size; first | assumption | (simp <;> omega) | (simp; done))))
  first | replace Z1 := Lib.hid (row_call hb2 Z1.out) | replace Z1 := Lib.hid (row_call hb2 (row_alloc Z1.out _)) | replace Z1 := Lib.hid (row_call hb2 (row_alloc (row_alloc Z1.out _) _)) | replace Z1 := Lib.hid (row_call hb2 (row_alloc (row_alloc (row_alloc Z1.out _) _) _))
  clear hb2
  have Z1_0 : V2.cell? ⟨w.heap.size, 0, none⟩ = some (.int .i64 0) := cell_of_row _ _ _ _ _ _ Z1.out
  have Z1_1 : V2.cell? ⟨w.heap.size, 1, none⟩ = some (.int .i64 0) := cell_of_row _ _ _ _ _ _ Z1.out
  have Z1_2 : V2.cell? ⟨w.heap.size, 2, none⟩ = some (.int .i64 0) := cell_of_row _ _ _ _ _ _ Z1.out
  have Z1_f0 : V2.frozen? ⟨w.heap.size, 0, none⟩ = false := by simp [World.frozen?, Z1.out]
  have Z1_f1 : V2.frozen? ⟨w.heap.size, 1, none⟩ = false := by simp [World.frozen?, Z1.out]
  have Z1_f2 : V2.frozen? ⟨w.heap.size, 2, none⟩ = false := by simp [World.frozen?, Z1.out]
  have zZ1 := lt_of_heap Z1.out
  go_simp
  go_wp2_with fail
  refine (H3.out _ (by first | exact tw_keep hM (B2.out) | exact tw_keep hM ((B2.out).alloc (B2.out.size) _) | exact tw_keep hM (((B2.out).alloc (B2.out.size) _).alloc (by have := B2.out.size; simp <;> omega) _) | exact tw_keep hM ((((B2.out).alloc (B2.out.size) _).alloc (by have := B2.out.size; simp <;> omega) _).alloc (by have := B2.out.size; simp <;> omega) _))).mono ?_
  rintro e V3 ⟨rfl, hb3⟩
  clear Z1_0 Z1_1 Z1_2 Z1_f0 Z1_f1 Z1_f2 zZ1
  have B3 : Hid (Below w.heap.size w V3) := by first | exact Lib.hid ((B2.out).trans (hb3.mono (by have := B2.out.size; first | assumption | (simp <;> omega) | (simp; done)))) | exact Lib.hid (((B2.out).alloc (B2.out.size) _).trans (hb3.mono (by have := B2.out.size; first | assumption | (simp <;> omega) | (simp; done)))) | exact Lib.hid ((((B2.out).alloc (B2.out.size) _).alloc (by have := B2.out.size; simp <;> omega) _).trans (hb3.mono (by have := B2.out.size; first | assumption | (simp <;> omega) | (simp; done)))) | exact Lib.hid (((((B2.out).alloc (B2.out.size) _).alloc (by have := B2.out.size; simp <;> omega) _).alloc (by have := B2.out.size; simp <;> omega) _).trans (hb3.mono (by have := B2.out.size; first | assumption | (simp <;> omega) | (simp; done))))
  first | replace Z1 := Lib.hid (row_call hb3 Z1.out) | replace Z1 := Lib.hid (row_call hb3 (row_alloc Z1.out _)) | replace Z1 := Lib.hid (row_call hb3 (row_alloc (row_alloc Z1.out _) _)) | replace Z1 := Lib.hid (row_call hb3 (row_alloc (row_alloc (row_alloc Z1.out _) _) _))
  clear hb3
  have Z1_0 : V3.cell? ⟨w.heap.size, 0, none⟩ = some (.int .i64 0) := cell_of_row _ _ _ _ _ _ Z1.out
  have Z1_1 : V3.cell? ⟨w.heap.size, 1, none⟩ = some (.int .i64 0) := cell_of_row _ _ _ _ _ _ Z1.out
  have Z1_2 : V3.cell? ⟨w.heap.size, 2, none⟩ = some (.int .i64 0) := cell_of_row _ _ _ _ _ _ Z1.out
  have Z1_f0 : V3.frozen? ⟨w.heap.size, 0, none⟩ = false := by simp [World.frozen?, Z1.out]
  have Z1_f1 : V3.frozen? ⟨w.heap.size, 1, none⟩ = false := by simp [World.frozen?, Z1.out]
  have Z1_f2 : V3.frozen? ⟨w.heap.size, 2, none⟩ = false := by simp [World.frozen?, Z1.out]
  have zZ1 := lt_of_heap Z1.out
  go_simp
  go_wp2
  refine shut_ret (v := .tuple #[.agg #[.int .i64 R.1, .int .i64 R.2.1, .int .i64 R.2.2.1], .int .i64 R.2.2.2]) (by simp [results, Tryz.results69, go_sem, zZ1, Z1_0, Z1_1, Z1_2]) rfl ⟨rfl, ?_⟩
  first | exact keep3 B3.out (Nat.le_refl _) _ _ _ | exact keepA (keep3 B3.out (Nat.le_refl _) _ _ _) _
set_option maxHeartbeats 3200000 in
set_option maxRecDepth 100000 in
theorem day_b (L : List UInt8) (hL : L.length ≤ 100000) (h : ¬ L.take 5 = lastL) (hF : Lib.index L [62, 61] = -1) (i : Nat) (hi : Lib.index L [60, 61] = (i : Int)) (w : World) (hM : TW w) : Calls Tryz.prog 69 #[.string (bs L)] w fun e w' => e = .returned (.tuple #[.agg #[.int .i64 (dayR L).1, .int .i64 (dayR L).2.1, .int .i64 (dayR L).2.2.1], .int .i64 (dayR L).2.2.2]) ∧ Below w.heap.size w w' := by
  have eD := day_second h hF hi
  have X1 := fun w => grow2 (cutLast_p L w)
  rw [decide_eq_false h] at X1
  have X2 := cutFrom_any L hL
  rw [cut_none hF] at X2
  have X4 := cutBef_any L hL
  rw [cut_some hi, show [(60 : UInt8), 61].length = 2 from rfl] at X4
  have H1 := Lib.hid X1
  have H2 := Lib.hid X2
  have H4 := Lib.hid X4
  have H3 := Lib.hid (pBound_any 3 (L.take i) (L.drop (i + 2)) (by simp; omega))
  rw [eD]
  clear X1 X2 X4 h eD hi hF
  replace hM := Lib.hid hM
  generalize bndR 3 (L.take i) (L.drop (i + 2)) = R at *
  generalize L.take i = Ta at *
  generalize L.drop (i + 2) = Tb at *
  generalize cpL L lastL = Tc at *
  go_enter Tryz.func69, Tryz.ntmps69
  refine wp_shut ?_
  go_wp2_with fail
  
  refine (H1.out _).mono ?_
  rintro e V1 ⟨rfl, hb1⟩
  have B1 := Lib.hid (((Below.refl w.heap.size w).alloc (Nat.le_refl _) _).trans (hb1.mono (by first | assumption | (simp <;> omega) | (simp; done))))
  have Z1 := Lib.hid (row_call hb1 (heap_alloc_new _ _))
  clear hb1
  have Z1_0 : V1.cell? ⟨w.heap.size, 0, none⟩ = some (.int .i64 0) := cell_of_row _ _ _ _ _ _ Z1.out
  have Z1_1 : V1.cell? ⟨w.heap.size, 1, none⟩ = some (.int .i64 0) := cell_of_row _ _ _ _ _ _ Z1.out
  have Z1_2 : V1.cell? ⟨w.heap.size, 2, none⟩ = some (.int .i64 0) := cell_of_row _ _ _ _ _ _ Z1.out
  have Z1_f0 : V1.frozen? ⟨w.heap.size, 0, none⟩ = false := by simp [World.frozen?, Z1.out]
  have Z1_f1 : V1.frozen? ⟨w.heap.size, 1, none⟩ = false := by simp [World.frozen?, Z1.out]
  have Z1_f2 : V1.frozen? ⟨w.heap.size, 2, none⟩ = false := by simp [World.frozen?, Z1.out]
  have zZ1 := lt_of_heap Z1.out
  go_simp
  go_wp2_with fail
  refine (H2.out _ (by first | exact tw_keep hM (B1.out) | exact tw_keep hM ((B1.out).alloc (B1.out.size) _) | exact tw_keep hM (((B1.out).alloc (B1.out.size) _).alloc (by have := B1.out.size; simp <;> omega) _) | exact tw_keep hM ((((B1.out).alloc (B1.out.size) _).alloc (by have := B1.out.size; simp <;> omega) _).alloc (by have := B1.out.size; simp <;> omega) _))).mono ?_
  rintro e V2 ⟨rfl, hb2⟩
  clear Z1_0 Z1_1 Z1_2 Z1_f0 Z1_f1 Z1_f2 zZ1
  have B2 : Hid (Below w.heap.size w V2) := by first | exact Lib.hid ((B1.out).trans (hb2.mono (by have := B1.out.size; first | assumption | (simp <;> omega) | (simp; done)))) | exact Lib.hid (((B1.out).alloc (B1.out.size) _).trans (hb2.mono (by have := B1.out.size; first | assumption | (simp <;> omega) | (simp; done)))) | exact Lib.hid ((((B1.out).alloc (B1.out.size) _).alloc (by have := B1.out.size; simp <;> omega) _).trans (hb2.mono (by have := B1.out.size; first | assumption | (simp <;> omega) | (simp; done)))) | exact Lib.hid (((((B1.out).alloc (B1.out.size) _).alloc (by have := B1.out.size; simp <;> omega) _).alloc (by have := B1.out.size; simp <;> omega) _).trans (hb2.mono (by have := B1.out.size; first | assumption | (simp <;> omega) | (simp; done))))
  first | replace Z1 := Lib.hid (row_call hb2 Z1.out) | replace Z1 := Lib.hid (row_call hb2 (row_alloc Z1.out _)) | replace Z1 := Lib.hid (row_call hb2 (row_alloc (row_alloc Z1.out _) _)) | replace Z1 := Lib.hid (row_call hb2 (row_alloc (row_alloc (row_alloc Z1.out _) _) _))
  clear hb2
  have Z1_0 : V2.cell? ⟨w.heap.size, 0, none⟩ = some (.int .i64 0) := cell_of_row _ _ _ _ _ _ Z1.out
  have Z1_1 : V2.cell? ⟨w.heap.size, 1, none⟩ = some (.int .i64 0) := cell_of_row _ _ _ _ _ _ Z1.out
  have Z1_2 : V2.cell? ⟨w.heap.size, 2, none⟩ = some (.int .i64 0) := cell_of_row _ _ _ _ _ _ Z1.out
  have Z1_f0 : V2.frozen? ⟨w.heap.size, 0, none⟩ = false := by simp [World.frozen?, Z1.out]
  have Z1_f1 : V2.frozen? ⟨w.heap.size, 1, none⟩ = false := by simp [World.frozen?, Z1.out]
  have Z1_f2 : V2.frozen? ⟨w.heap.size, 2, none⟩ = false := by simp [World.frozen?, Z1.out]
  have zZ1 := lt_of_heap Z1.out
  go_simp
  go_wp2_with fail
  refine (H4.out _ (by first | exact tw_keep hM (B2.out) | exact tw_keep hM ((B2.out).alloc (B2.out.size) _) | exact tw_keep hM (((B2.out).alloc (B2.out.size) _).alloc (by have := B2.out.size; simp <;> omega) _) | exact tw_keep hM ((((B2.out).alloc (B2.out.size) _).alloc (by have := B2.out.size; simp <;> omega) _).alloc (by have := B2.out.size; simp <;> omega) _))).mono ?_
  rintro e V3 ⟨rfl, hb3⟩
  clear Z1_0 Z1_1 Z1_2 Z1_f0 Z1_f1 Z1_f2 zZ1
  have B3 : Hid (Below w.heap.size w V3) := by first | exact Lib.hid ((B2.out).trans (hb3.mono (by have := B2.out.size; first | assumption | (simp <;> omega) | (simp; done)))) | exact Lib.hid (((B2.out).alloc (B2.out.size) _).trans (hb3.mono (by have := B2.out.size; first | assumption | (simp <;> omega) | (simp; done)))) | exact Lib.hid ((((B2.out).alloc (B2.out.size) _).alloc (by have := B2.out.size; simp <;> omega) _).trans (hb3.mono (by have := B2.out.size; first | assumption | (simp <;> omega) | (simp; done)))) | exact Lib.hid (((((B2.out).alloc (B2.out.size) _).alloc (by have := B2.out.size; simp <;> omega) _).alloc (by have := B2.out.size; simp <;> omega) _).trans (hb3.mono (by have := B2.out.size; first | assumption | (simp <;> omega) | (simp; done))))
  first | replace Z1 := Lib.hid (row_call hb3 Z1.out) | replace Z1 := Lib.hid (row_call hb3 (row_alloc Z1.out _)) | replace Z1 := Lib.hid (row_call hb3 (row_alloc (row_alloc Z1.out _) _)) | replace Z1 := Lib.hid (row_call hb3 (row_alloc (row_alloc (row_alloc Z1.out _) _) _))
  clear hb3
  have Z1_0 : V3.cell? ⟨w.heap.size, 0, none⟩ = some (.int .i64 0) := cell_of_row _ _ _ _ _ _ Z1.out
  have Z1_1 : V3.cell? ⟨w.heap.size, 1, none⟩ = some (.int .i64 0) := cell_of_row _ _ _ _ _ _ Z1.out
  have Z1_2 : V3.cell? ⟨w.heap.size, 2, none⟩ = some (.int .i64 0) := cell_of_row _ _ _ _ _ _ Z1.out
  have Z1_f0 : V3.frozen? ⟨w.heap.size, 0, none⟩ = false := by simp [World.frozen?, Z1.out]
  have Z1_f1 : V3.frozen? ⟨w.heap.size, 1, none⟩ = false := by simp [World.frozen?, Z1.out]
  have Z1_f2 : V3.frozen? ⟨w.heap.size, 2, none⟩ = false := by simp [World.frozen?, Z1.out]
  have zZ1 := lt_of_heap Z1.out
  go_simp
  go_wp2_with fail
  refine (H3.out _ (by first | exact tw_keep hM (B3.out) | exact tw_keep hM ((B3.out).alloc (B3.out.size) _) | exact tw_keep hM (((B3.out).alloc (B3.out.size) _).alloc (by have := B3.out.size; simp <;> omega) _) | exact tw_keep hM ((((B3.out).alloc (B3.out.size) _).alloc (by have := B3.out.size; simp <;> omega) _).alloc (by have := B3.out.size; simp <;> omega) _))).mono ?_
  rintro e V4 ⟨rfl, hb4⟩
  clear Z1_0 Z1_1 Z1_2 Z1_f0 Z1_f1 Z1_f2 zZ1
  have B4 : Hid (Below w.heap.size w V4) := by first | exact Lib.hid ((B3.out).trans (hb4.mono (by have := B3.out.size; first | assumption | (simp <;> omega) | (simp; done)))) | exact Lib.hid (((B3.out).alloc (B3.out.size) _).trans (hb4.mono (by have := B3.out.size; first | assumption | (simp <;> omega) | (simp; done)))) | exact Lib.hid ((((B3.out).alloc (B3.out.size) _).alloc (by have := B3.out.size; simp <;> omega) _).trans (hb4.mono (by have := B3.out.size; first | assumption | (simp <;> omega) | (simp; done)))) | exact Lib.hid (((((B3.out).alloc (B3.out.size) _).alloc (by have := B3.out.size; simp <;> omega) _).alloc (by have := B3.out.size; simp <;> omega) _).trans (hb4.mono (by have := B3.out.size; first | assumption | (simp <;> omega) | (simp; done))))
  first | replace Z1 := Lib.hid (row_call hb4 Z1.out) | replace Z1 := Lib.hid (row_call hb4 (row_alloc Z1.out _)) | replace Z1 := Lib.hid (row_call hb4 (row_alloc (row_alloc Z1.out _) _)) | replace Z1 := Lib.hid (row_call hb4 (row_alloc (row_alloc (row_alloc Z1.out _) _) _))
  clear hb4
  have Z1_0 : V4.cell? ⟨w.heap.size, 0, none⟩ = some (.int .i64 0) := cell_of_row _ _ _ _ _ _ Z1.out
  have Z1_1 : V4.cell? ⟨w.heap.size, 1, none⟩ = some (.int .i64 0) := cell_of_row _ _ _ _ _ _ Z1.out
  have Z1_2 : V4.cell? ⟨w.heap.size, 2, none⟩ = some (.int .i64 0) := cell_of_row _ _ _ _ _ _ Z1.out
  have Z1_f0 : V4.frozen? ⟨w.heap.size, 0, none⟩ = false := by simp [World.frozen?, Z1.out]
  have Z1_f1 : V4.frozen? ⟨w.heap.size, 1, none⟩ = false := by simp [World.frozen?, Z1.out]
  have Z1_f2 : V4.frozen? ⟨w.heap.size, 2, none⟩ = false := by simp [World.frozen?, Z1.out]
  have zZ1 := lt_of_heap Z1.out
  go_simp
  go_wp2
  refine shut_ret (v := .tuple #[.agg #[.int .i64 R.1, .int .i64 R.2.1, .int .i64 R.2.2.1], .int .i64 R.2.2.2]) (by simp [results, Tryz.results69, go_sem, zZ1, Z1_0, Z1_1, Z1_2]) rfl ⟨rfl, ?_⟩
  first | exact keep3 B4.out (Nat.le_refl _) _ _ _ | exact keepA (keep3 B4.out (Nat.le_refl _) _ _ _) _
set_option maxHeartbeats 3200000 in
set_option maxRecDepth 100000 in
theorem day_n (L : List UInt8) (hL : L.length ≤ 100000) (h : ¬ L.take 5 = lastL) (hF : Lib.index L [62, 61] = -1) (hB : Lib.index L [60, 61] = -1) (w : World) (hM : TW w) : Calls Tryz.prog 69 #[.string (bs L)] w fun e w' => e = .returned (.tuple #[.agg #[.int .i64 (dayR L).1, .int .i64 (dayR L).2.1, .int .i64 (dayR L).2.2.1], .int .i64 (dayR L).2.2.2]) ∧ Below w.heap.size w w' := by
  have eD : dayR L = unR (numE L 1 31) 0 (numV L 1 31) 0 := day_none h hF hB
  have X1 := fun w => grow2 (cutLast_p L w)
  rw [decide_eq_false h] at X1
  have X2 := cutFrom_any L hL
  rw [cut_none hF] at X2
  have X4 := cutBef_any L hL
  rw [cut_none hB] at X4
  have H1 := Lib.hid X1
  have H2 := Lib.hid X2
  have H4 := Lib.hid X4
  have H5 := Lib.hid (pNum14_any L 1 31 hL)
  have H3 := Lib.hid (pUnless_any (numE L 1 31) 0 (numV L 1 31) 0)
  rw [eD]
  clear X1 X2 X4 h eD hF hB
  replace hM := Lib.hid hM
  generalize unR (numE L 1 31) 0 (numV L 1 31) 0 = R at *
  generalize numE L 1 31 = ne at *
  generalize numV L 1 31 = nv at *
  generalize cpL L lastL = Tc at *
  go_enter Tryz.func69, Tryz.ntmps69
  refine wp_shut ?_
  go_wp2_with fail
  
  refine (H1.out _).mono ?_
  rintro e V1 ⟨rfl, hb1⟩
  have B1 := Lib.hid (((Below.refl w.heap.size w).alloc (Nat.le_refl _) _).trans (hb1.mono (by first | assumption | (simp <;> omega) | (simp; done))))
  have Z1 := Lib.hid (row_call hb1 (heap_alloc_new _ _))
  clear hb1
  have Z1_0 : V1.cell? ⟨w.heap.size, 0, none⟩ = some (.int .i64 0) := cell_of_row _ _ _ _ _ _ Z1.out
  have Z1_1 : V1.cell? ⟨w.heap.size, 1, none⟩ = some (.int .i64 0) := cell_of_row _ _ _ _ _ _ Z1.out
  have Z1_2 : V1.cell? ⟨w.heap.size, 2, none⟩ = some (.int .i64 0) := cell_of_row _ _ _ _ _ _ Z1.out
  have Z1_f0 : V1.frozen? ⟨w.heap.size, 0, none⟩ = false := by simp [World.frozen?, Z1.out]
  have Z1_f1 : V1.frozen? ⟨w.heap.size, 1, none⟩ = false := by simp [World.frozen?, Z1.out]
  have Z1_f2 : V1.frozen? ⟨w.heap.size, 2, none⟩ = false := by simp [World.frozen?, Z1.out]
  have zZ1 := lt_of_heap Z1.out
  go_simp
  go_wp2_with fail
  refine (H2.out _ (by first | exact tw_keep hM (B1.out) | exact tw_keep hM ((B1.out).alloc (B1.out.size) _) | exact tw_keep hM (((B1.out).alloc (B1.out.size) _).alloc (by have := B1.out.size; simp <;> omega) _) | exact tw_keep hM ((((B1.out).alloc (B1.out.size) _).alloc (by have := B1.out.size; simp <;> omega) _).alloc (by have := B1.out.size; simp <;> omega) _))).mono ?_
  rintro e V2 ⟨rfl, hb2⟩
  clear Z1_0 Z1_1 Z1_2 Z1_f0 Z1_f1 Z1_f2 zZ1
  have B2 : Hid (Below w.heap.size w V2) := by first | exact Lib.hid ((B1.out).trans (hb2.mono (by have := B1.out.size; first | assumption | (simp <;> omega) | (simp; done)))) | exact Lib.hid (((B1.out).alloc (B1.out.size) _).trans (hb2.mono (by have := B1.out.size; first | assumption | (simp <;> omega) | (simp; done)))) | exact Lib.hid ((((B1.out).alloc (B1.out.size) _).alloc (by have := B1.out.size; simp <;> omega) _).trans (hb2.mono (by have := B1.out.size; first | assumption | (simp <;> omega) | (simp; done)))) | exact Lib.hid (((((B1.out).alloc (B1.out.size) _).alloc (by have := B1.out.size; simp <;> omega) _).alloc (by have := B1.out.size; simp <;> omega) _).trans (hb2.mono (by have := B1.out.size; first | assumption | (simp <;> omega) | (simp; done))))
  first | replace Z1 := Lib.hid (row_call hb2 Z1.out) | replace Z1 := Lib.hid (row_call hb2 (row_alloc Z1.out _)) | replace Z1 := Lib.hid (row_call hb2 (row_alloc (row_alloc Z1.out _) _)) | replace Z1 := Lib.hid (row_call hb2 (row_alloc (row_alloc (row_alloc Z1.out _) _) _))
  clear hb2
  have Z1_0 : V2.cell? ⟨w.heap.size, 0, none⟩ = some (.int .i64 0) := cell_of_row _ _ _ _ _ _ Z1.out
  have Z1_1 : V2.cell? ⟨w.heap.size, 1, none⟩ = some (.int .i64 0) := cell_of_row _ _ _ _ _ _ Z1.out
  have Z1_2 : V2.cell? ⟨w.heap.size, 2, none⟩ = some (.int .i64 0) := cell_of_row _ _ _ _ _ _ Z1.out
  have Z1_f0 : V2.frozen? ⟨w.heap.size, 0, none⟩ = false := by simp [World.frozen?, Z1.out]
  have Z1_f1 : V2.frozen? ⟨w.heap.size, 1, none⟩ = false := by simp [World.frozen?, Z1.out]
  have Z1_f2 : V2.frozen? ⟨w.heap.size, 2, none⟩ = false := by simp [World.frozen?, Z1.out]
  have zZ1 := lt_of_heap Z1.out
  go_simp
  go_wp2_with fail
  refine (H4.out _ (by first | exact tw_keep hM (B2.out) | exact tw_keep hM ((B2.out).alloc (B2.out.size) _) | exact tw_keep hM (((B2.out).alloc (B2.out.size) _).alloc (by have := B2.out.size; simp <;> omega) _) | exact tw_keep hM ((((B2.out).alloc (B2.out.size) _).alloc (by have := B2.out.size; simp <;> omega) _).alloc (by have := B2.out.size; simp <;> omega) _))).mono ?_
  rintro e V3 ⟨rfl, hb3⟩
  clear Z1_0 Z1_1 Z1_2 Z1_f0 Z1_f1 Z1_f2 zZ1
  have B3 : Hid (Below w.heap.size w V3) := by first | exact Lib.hid ((B2.out).trans (hb3.mono (by have := B2.out.size; first | assumption | (simp <;> omega) | (simp; done)))) | exact Lib.hid (((B2.out).alloc (B2.out.size) _).trans (hb3.mono (by have := B2.out.size; first | assumption | (simp <;> omega) | (simp; done)))) | exact Lib.hid ((((B2.out).alloc (B2.out.size) _).alloc (by have := B2.out.size; simp <;> omega) _).trans (hb3.mono (by have := B2.out.size; first | assumption | (simp <;> omega) | (simp; done)))) | exact Lib.hid (((((B2.out).alloc (B2.out.size) _).alloc (by have := B2.out.size; simp <;> omega) _).alloc (by have := B2.out.size; simp <;> omega) _).trans (hb3.mono (by have := B2.out.size; first | assumption | (simp <;> omega) | (simp; done))))
  first | replace Z1 := Lib.hid (row_call hb3 Z1.out) | replace Z1 := Lib.hid (row_call hb3 (row_alloc Z1.out _)) | replace Z1 := Lib.hid (row_call hb3 (row_alloc (row_alloc Z1.out _) _)) | replace Z1 := Lib.hid (row_call hb3 (row_alloc (row_alloc (row_alloc Z1.out _) _) _))
  clear hb3
  have Z1_0 : V3.cell? ⟨w.heap.size, 0, none⟩ = some (.int .i64 0) := cell_of_row _ _ _ _ _ _ Z1.out
  have Z1_1 : V3.cell? ⟨w.heap.size, 1, none⟩ = some (.int .i64 0) := cell_of_row _ _ _ _ _ _ Z1.out
  have Z1_2 : V3.cell? ⟨w.heap.size, 2, none⟩ = some (.int .i64 0) := cell_of_row _ _ _ _ _ _ Z1.out
  have Z1_f0 : V3.frozen? ⟨w.heap.size, 0, none⟩ = false := by simp [World.frozen?, Z1.out]
  have Z1_f1 : V3.frozen? ⟨w.heap.size, 1, none⟩ = false := by simp [World.frozen?, Z1.out]
  have Z1_f2 : V3.frozen? ⟨w.heap.size, 2, none⟩ = false := by simp [World.frozen?, Z1.out]
  have zZ1 := lt_of_heap Z1.out
  go_simp
  go_wp2_with fail
  refine (H5.out _).mono ?_
  rintro e V4 ⟨rfl, hb4⟩
  clear Z1_0 Z1_1 Z1_2 Z1_f0 Z1_f1 Z1_f2 zZ1
  have B4 : Hid (Below w.heap.size w V4) := by first | exact Lib.hid ((B3.out).trans (hb4.mono (by have := B3.out.size; first | assumption | (simp <;> omega) | (simp; done)))) | exact Lib.hid (((B3.out).alloc (B3.out.size) _).trans (hb4.mono (by have := B3.out.size; first | assumption | (simp <;> omega) | (simp; done)))) | exact Lib.hid ((((B3.out).alloc (B3.out.size) _).alloc (by have := B3.out.size; simp <;> omega) _).trans (hb4.mono (by have := B3.out.size; first | assumption | (simp <;> omega) | (simp; done)))) | exact Lib.hid (((((B3.out).alloc (B3.out.size) _).alloc (by have := B3.out.size; simp <;> omega) _).alloc (by have := B3.out.size; simp <;> omega) _).trans (hb4.mono (by have := B3.out.size; first | assumption | (simp <;> omega) | (simp; done))))
  first | replace Z1 := Lib.hid (row_call hb4 Z1.out) | replace Z1 := Lib.hid (row_call hb4 (row_alloc Z1.out _)) | replace Z1 := Lib.hid (row_call hb4 (row_alloc (row_alloc Z1.out _) _)) | replace Z1 := Lib.hid (row_call hb4 (row_alloc (row_alloc (row_alloc Z1.out _) _) _))
  clear hb4
  have Z1_0 : V4.cell? ⟨w.heap.size, 0, none⟩ = some (.int .i64 0) := cell_of_row _ _ _ _ _ _ Z1.out
  have Z1_1 : V4.cell? ⟨w.heap.size, 1, none⟩ = some (.int .i64 0) := cell_of_row _ _ _ _ _ _ Z1.out
  have Z1_2 : V4.cell? ⟨w.heap.size, 2, none⟩ = some (.int .i64 0) := cell_of_row _ _ _ _ _ _ Z1.out
  have Z1_f0 : V4.frozen? ⟨w.heap.size, 0, none⟩ = false := by simp [World.frozen?, Z1.out]
  have Z1_f1 : V4.frozen? ⟨w.heap.size, 1, none⟩ = false := by simp [World.frozen?, Z1.out]
  have Z1_f2 : V4.frozen? ⟨w.heap.size, 2, none⟩ = false := by simp [World.frozen?, Z1.out]
  have zZ1 := lt_of_heap Z1.out
  go_simp
  go_wp2_with fail
  refine (H3.out _).mono ?_
  rintro e V5 ⟨rfl, hb5⟩
  clear Z1_0 Z1_1 Z1_2 Z1_f0 Z1_f1 Z1_f2 zZ1
  have B5 : Hid (Below w.heap.size w V5) := by first | exact Lib.hid ((B4.out).trans (hb5.mono (by have := B4.out.size; first | assumption | (simp <;> omega) | (simp; done)))) | exact Lib.hid (((B4.out).alloc (B4.out.size) _).trans (hb5.mono (by have := B4.out.size; first | assumption | (simp <;> omega) | (simp; done)))) | exact Lib.hid ((((B4.out).alloc (B4.out.size) _).alloc (by have := B4.out.size; simp <;> omega) _).trans (hb5.mono (by have := B4.out.size; first | assumption | (simp <;> omega) | (simp; done)))) | exact Lib.hid (((((B4.out).alloc (B4.out.size) _).alloc (by have := B4.out.size; simp <;> omega) _).alloc (by have := B4.out.size; simp <;> omega) _).trans (hb5.mono (by have := B4.out.size; first | assumption | (simp <;> omega) | (simp; done))))
  first | replace Z1 := Lib.hid (row_call hb5 Z1.out) | replace Z1 := Lib.hid (row_call hb5 (row_alloc Z1.out _)) | replace Z1 := Lib.hid (row_call hb5 (row_alloc (row_alloc Z1.out _) _)) | replace Z1 := Lib.hid (row_call hb5 (row_alloc (row_alloc (row_alloc Z1.out _) _) _))
  clear hb5
  have Z1_0 : V5.cell? ⟨w.heap.size, 0, none⟩ = some (.int .i64 0) := cell_of_row _ _ _ _ _ _ Z1.out
  have Z1_1 : V5.cell? ⟨w.heap.size, 1, none⟩ = some (.int .i64 0) := cell_of_row _ _ _ _ _ _ Z1.out
  have Z1_2 : V5.cell? ⟨w.heap.size, 2, none⟩ = some (.int .i64 0) := cell_of_row _ _ _ _ _ _ Z1.out
  have Z1_f0 : V5.frozen? ⟨w.heap.size, 0, none⟩ = false := by simp [World.frozen?, Z1.out]
  have Z1_f1 : V5.frozen? ⟨w.heap.size, 1, none⟩ = false := by simp [World.frozen?, Z1.out]
  have Z1_f2 : V5.frozen? ⟨w.heap.size, 2, none⟩ = false := by simp [World.frozen?, Z1.out]
  have zZ1 := lt_of_heap Z1.out
  go_simp
  go_wp2
  refine shut_ret (v := .tuple #[.agg #[.int .i64 R.1, .int .i64 R.2.1, .int .i64 R.2.2.1], .int .i64 R.2.2.2]) (by simp [results, Tryz.results69, go_sem, zZ1, Z1_0, Z1_1, Z1_2]) rfl ⟨rfl, ?_⟩
  first | exact keep3 B5.out (Nat.le_refl _) _ _ _ | exact keepA (keep3 B5.out (Nat.le_refl _) _ _ _) _
theorem pDay_any (L : List UInt8) (hL : L.length ≤ 100000) (w : World) (hM : TW w) : Calls Tryz.prog 69 #[.string (bs L)] w fun e w' => e = .returned (.tuple #[.agg #[.int .i64 (dayR L).1, .int .i64 (dayR L).2.1, .int .i64 (dayR L).2.2.1], .int .i64 (dayR L).2.2.2]) ∧ Below w.heap.size w w' := by
  by_cases h : L.take 5 = lastL
  · exact day_l L hL h w hM
  · rcases index_or L [62, 61] with hF | ⟨i, hi⟩
    · rcases index_or L [60, 61] with hB | ⟨i, hi⟩
      · exact day_n L hL h hF hB w hM
      · exact day_b L hL h hF i hi w hM
    · exact day_f L hL h i hi w hM
theorem formM_any (t : List UInt8) (w : World) : Calls Tryz.prog 85 #[.string (bs t), .string ⟨#[48, 48, 48, 48, 45, 48, 48, 45, 48, 48, 84, 48, 48, 58, 48, 48, 58, 48, 48]⟩] w fun e w' => e = .returned (.bool (frB t fM)) ∧ Below w.heap.size w w' := by
  have H := pFormed_any t fM (by decide) w
  rw [lit_of #[48, 48, 48, 48, 45, 48, 48, 45, 48, 48, 84, 48, 48, 58, 48, 48, 58, 48, 48] fM rfl] at H
  exact H
set_option maxHeartbeats 3200000 in
set_option maxRecDepth 100000 in
theorem pMom_any (L : List UInt8) (hL : L.length ≤ 100000) (w : World) (hM : TW w) : Calls Tryz.prog 70 #[.string (bs L)] w fun e w' => e = .returned (.tuple #[.int .i64 (momR L).1, .int .i64 (momR L).2]) ∧ Below w.heap.size w w' := by
  have X1 := fun w => grow2 (cutNeg_p L w)
  have X2 := formM_any (bodyN L)
  replace hM := Lib.hid hM
  cases hf : frB (bodyN L) fM
  · have E := mom_form hf
    rw [E]
    rw [hf] at X2
    have H1 := Lib.hid X1
    have H2 := Lib.hid X2
    clear X1 X2 hf E
    generalize bodyN L = T at *
    generalize negB L = b at *
    go_enter Tryz.func70, Tryz.ntmps70
    go_wp2_with fail
    
    refine (H1.out _).mono ?_
    rintro e V1 ⟨rfl, hb1⟩
    have B1 : Hid (Below w.heap.size w V1) := by first | exact Lib.hid ((Below.refl w.heap.size w).trans (hb1.mono (by first | assumption | (simp <;> omega) | (simp; done)))) | exact Lib.hid (((Below.refl w.heap.size w).alloc (Nat.le_refl _) _).trans (hb1.mono (by first | assumption | (simp <;> omega) | (simp; done)))) | exact Lib.hid ((((Below.refl w.heap.size w).alloc (Nat.le_refl _) _).alloc (by simp <;> omega) _).trans (hb1.mono (by first | assumption | (simp <;> omega) | (simp; done)))) | exact Lib.hid (((((Below.refl w.heap.size w).alloc (Nat.le_refl _) _).alloc (by simp <;> omega) _).alloc (by simp <;> omega) _).trans (hb1.mono (by first | assumption | (simp <;> omega) | (simp; done))))
    clear hb1
    go_simp
    go_wp2_with fail
    refine (H2.out _).mono ?_
    rintro e V2 ⟨rfl, hb2⟩
    have B2 : Hid (Below w.heap.size w V2) := by first | exact Lib.hid ((B1.out).trans (hb2.mono (by have := B1.out.size; first | assumption | (simp <;> omega) | (simp; done)))) | exact Lib.hid (((B1.out).alloc (B1.out.size) _).trans (hb2.mono (by have := B1.out.size; first | assumption | (simp <;> omega) | (simp; done)))) | exact Lib.hid ((((B1.out).alloc (B1.out.size) _).alloc (by have := B1.out.size; simp <;> omega) _).trans (hb2.mono (by have := B1.out.size; first | assumption | (simp <;> omega) | (simp; done)))) | exact Lib.hid (((((B1.out).alloc (B1.out.size) _).alloc (by have := B1.out.size; simp <;> omega) _).alloc (by have := B1.out.size; simp <;> omega) _).trans (hb2.mono (by have := B1.out.size; first | assumption | (simp <;> omega) | (simp; done))))
    clear hb2
    go_simp
    go_wp2
    go_ret2
    exact ⟨by first | rfl | simp, B2.out⟩
  · obtain ⟨hl, _, a0, a5, a8, a11, a14, a17⟩ := (frM_iff _).1 hf
    have hS := bs_size (bodyN L)
    rw [hl] at hS
    have v0 := dval_four a0
    have s4 := fun W => slice_upto (bodyN L) 4 (by omega) (B := 4) rfl W
    rw [sub_a] at s4
    have X3 := fun w => grow2 (pDigits_p (sub (bodyN L) 0 4) a0 (by unfold sub; simp; omega) w)
    have X4 := fun w => grow2 (pTurned_p (dval (sub (bodyN L) 0 4) : Int) (negB L) (by omega) (by omega) w)
    rw [hf] at X2
    by_cases hz : negB L = true ∧ dval (sub (bodyN L) 0 4) = 0
    · have E := mom_zero hf hz.1 hz.2
      rw [E]
      rw [hz.1] at X1 X4
      rw [hz.2] at X3 X4
      rw [show ((0 : Nat) : Int) = 0 from rfl, tu_zero.1, tu_zero.2] at X4
      have H1 := Lib.hid X1
      have H2 := Lib.hid X2
      have H3 := Lib.hid X3
      have H4 := Lib.hid X4
      clear X1 X2 X3 X4 E hz hf a0 a5 a8 a11 a14 a17 v0
      generalize sub (bodyN L) 0 4 = T4 at *
      generalize bodyN L = T at *
      go_enter Tryz.func70, Tryz.ntmps70
      go_wp2_with fail
      
      refine (H1.out _).mono ?_
      rintro e V1 ⟨rfl, hb1⟩
      have B1 : Hid (Below w.heap.size w V1) := by first | exact Lib.hid ((Below.refl w.heap.size w).trans (hb1.mono (by first | assumption | (simp <;> omega) | (simp; done)))) | exact Lib.hid (((Below.refl w.heap.size w).alloc (Nat.le_refl _) _).trans (hb1.mono (by first | assumption | (simp <;> omega) | (simp; done)))) | exact Lib.hid ((((Below.refl w.heap.size w).alloc (Nat.le_refl _) _).alloc (by simp <;> omega) _).trans (hb1.mono (by first | assumption | (simp <;> omega) | (simp; done)))) | exact Lib.hid (((((Below.refl w.heap.size w).alloc (Nat.le_refl _) _).alloc (by simp <;> omega) _).alloc (by simp <;> omega) _).trans (hb1.mono (by first | assumption | (simp <;> omega) | (simp; done))))
      clear hb1
      go_simp
      go_wp2_with fail
      refine (H2.out _).mono ?_
      rintro e V2 ⟨rfl, hb2⟩
      have B2 : Hid (Below w.heap.size w V2) := by first | exact Lib.hid ((B1.out).trans (hb2.mono (by have := B1.out.size; first | assumption | (simp <;> omega) | (simp; done)))) | exact Lib.hid (((B1.out).alloc (B1.out.size) _).trans (hb2.mono (by have := B1.out.size; first | assumption | (simp <;> omega) | (simp; done)))) | exact Lib.hid ((((B1.out).alloc (B1.out.size) _).alloc (by have := B1.out.size; simp <;> omega) _).trans (hb2.mono (by have := B1.out.size; first | assumption | (simp <;> omega) | (simp; done)))) | exact Lib.hid (((((B1.out).alloc (B1.out.size) _).alloc (by have := B1.out.size; simp <;> omega) _).alloc (by have := B1.out.size; simp <;> omega) _).trans (hb2.mono (by have := B1.out.size; first | assumption | (simp <;> omega) | (simp; done))))
      clear hb2
      go_simp
      go_wp2_with fail
      refine (H3.out _).mono ?_
      rintro e V3 ⟨rfl, hb3⟩
      have B3 : Hid (Below w.heap.size w V3) := by first | exact Lib.hid ((B2.out).trans (hb3.mono (by have := B2.out.size; first | assumption | (simp <;> omega) | (simp; done)))) | exact Lib.hid (((B2.out).alloc (B2.out.size) _).trans (hb3.mono (by have := B2.out.size; first | assumption | (simp <;> omega) | (simp; done)))) | exact Lib.hid ((((B2.out).alloc (B2.out.size) _).alloc (by have := B2.out.size; simp <;> omega) _).trans (hb3.mono (by have := B2.out.size; first | assumption | (simp <;> omega) | (simp; done)))) | exact Lib.hid (((((B2.out).alloc (B2.out.size) _).alloc (by have := B2.out.size; simp <;> omega) _).alloc (by have := B2.out.size; simp <;> omega) _).trans (hb3.mono (by have := B2.out.size; first | assumption | (simp <;> omega) | (simp; done))))
      clear hb3
      go_simp
      go_wp2_with fail
      refine (H4.out _).mono ?_
      rintro e V4 ⟨rfl, hb4⟩
      have B4 : Hid (Below w.heap.size w V4) := by first | exact Lib.hid ((B3.out).trans (hb4.mono (by have := B3.out.size; first | assumption | (simp <;> omega) | (simp; done)))) | exact Lib.hid (((B3.out).alloc (B3.out.size) _).trans (hb4.mono (by have := B3.out.size; first | assumption | (simp <;> omega) | (simp; done)))) | exact Lib.hid ((((B3.out).alloc (B3.out.size) _).alloc (by have := B3.out.size; simp <;> omega) _).trans (hb4.mono (by have := B3.out.size; first | assumption | (simp <;> omega) | (simp; done)))) | exact Lib.hid (((((B3.out).alloc (B3.out.size) _).alloc (by have := B3.out.size; simp <;> omega) _).alloc (by have := B3.out.size; simp <;> omega) _).trans (hb4.mono (by have := B3.out.size; first | assumption | (simp <;> omega) | (simp; done))))
      clear hb4
      go_simp
      go_wp2
      go_ret2
      exact ⟨by first | rfl | simp, B4.out⟩
    · have E := mom_secs hf hz
      have ht : tuE (dval (sub (bodyN L) 0 4) : Int) (negB L) = 0 := by unfold tuE; exact if_neg (fun h => hz ⟨h.1, by omega⟩)
      have hy : yrS (negB L) (dval (sub (bodyN L) 0 4) : Int) = tuV (dval (sub (bodyN L) 0 4) : Int) (negB L) := by
        unfold yrS
        cases hn : negB L
        · exact (tu_pos _).1.symm
        · exact (tu_neg (by rw [hn] at hz; simp at hz; omega)).1.symm
      rw [hy] at E
      rw [ht] at X4
      have s5 := fun W => slice_bs (bodyN L) 5 7 (by decide) (by omega) (A := 5) (B := 7) rfl rfl W
      have s8 := fun W => slice_bs (bodyN L) 8 10 (by decide) (by omega) (A := 8) (B := 10) rfl rfl W
      have s11 := fun W => slice_bs (bodyN L) 11 13 (by decide) (by omega) (A := 11) (B := 13) rfl rfl W
      have s14 := fun W => slice_bs (bodyN L) 14 16 (by decide) (by omega) (A := 14) (B := 16) rfl rfl W
      have s17 := fun W => slice_bs (bodyN L) 17 19 (by decide) (by omega) (A := 17) (B := 19) rfl rfl W
      rw [sub_b _ 5 2] at s5
      rw [sub_b _ 8 2] at s8
      rw [sub_b _ 11 2] at s11
      rw [sub_b _ 14 2] at s14
      rw [sub_b _ 17 2] at s17
      have Y5 := fun w => grow2 (pDigits_p (sub (bodyN L) 5 2) a5 (by unfold sub; simp; omega) w)
      have Y8 := fun w => grow2 (pDigits_p (sub (bodyN L) 8 2) a8 (by unfold sub; simp; omega) w)
      have Y11 := fun w => grow2 (pDigits_p (sub (bodyN L) 11 2) a11 (by unfold sub; simp; omega) w)
      have Y14 := fun w => grow2 (pDigits_p (sub (bodyN L) 14 2) a14 (by unfold sub; simp; omega) w)
      have Y17 := fun w => grow2 (pDigits_p (sub (bodyN L) 17 2) a17 (by unfold sub; simp; omega) w)
      have Y0 := pSecsW_any (tuV (dval (sub (bodyN L) 0 4) : Int) (negB L)) (dval (sub (bodyN L) 5 2)) (dval (sub (bodyN L) 8 2)) (dval (sub (bodyN L) 11 2)) (dval (sub (bodyN L) 14 2)) (dval (sub (bodyN L) 17 2)) 0
      have H1 := Lib.hid X1
      have H2 := Lib.hid X2
      have H3 := Lib.hid X3
      have H4 := Lib.hid X4
      have H5 := Lib.hid Y5
      have H6 := Lib.hid Y8
      have H7 := Lib.hid Y11
      have H8 := Lib.hid Y14
      have H9 := Lib.hid Y17
      have H0 := Lib.hid Y0
      rw [E]
      clear X1 X2 X3 X4 Y5 Y8 Y11 Y14 Y17 Y0 E hz hf a0 a5 a8 a11 a14 a17 v0 ht hy
      generalize seT (tuV (dval (sub (bodyN L) 0 4) : Int) (negB L)) (dval (sub (bodyN L) 5 2)) (dval (sub (bodyN L) 8 2)) (dval (sub (bodyN L) 11 2)) (dval (sub (bodyN L) 14 2)) (dval (sub (bodyN L) 17 2)) 0 = rv at *
      generalize ckT (tuV (dval (sub (bodyN L) 0 4) : Int) (negB L)) (dval (sub (bodyN L) 5 2)) (dval (sub (bodyN L) 8 2)) (dval (sub (bodyN L) 11 2)) (dval (sub (bodyN L) 14 2)) (dval (sub (bodyN L) 17 2)) 0 = re at *
      generalize tuV (dval (sub (bodyN L) 0 4) : Int) (negB L) = y at *
      generalize (dval (sub (bodyN L) 0 4) : Int) = y0 at *
      generalize (dval (sub (bodyN L) 5 2) : Int) = d5 at *
      generalize (dval (sub (bodyN L) 8 2) : Int) = d8 at *
      generalize (dval (sub (bodyN L) 11 2) : Int) = d11 at *
      generalize (dval (sub (bodyN L) 14 2) : Int) = d14 at *
      generalize (dval (sub (bodyN L) 17 2) : Int) = d17 at *
      generalize sub (bodyN L) 0 4 = T0 at *
      generalize sub (bodyN L) 5 2 = T5 at *
      generalize sub (bodyN L) 8 2 = T8 at *
      generalize sub (bodyN L) 11 2 = T11 at *
      generalize sub (bodyN L) 14 2 = T14 at *
      generalize sub (bodyN L) 17 2 = T17 at *
      generalize bodyN L = T at *
      go_enter Tryz.func70, Tryz.ntmps70
      go_wp2_with fail
      
      refine (H1.out _).mono ?_
      rintro e V1 ⟨rfl, hb1⟩
      have B1 : Hid (Below w.heap.size w V1) := by first | exact Lib.hid ((Below.refl w.heap.size w).trans (hb1.mono (by first | assumption | (simp <;> omega) | (simp; done)))) | exact Lib.hid (((Below.refl w.heap.size w).alloc (Nat.le_refl _) _).trans (hb1.mono (by first | assumption | (simp <;> omega) | (simp; done)))) | exact Lib.hid ((((Below.refl w.heap.size w).alloc (Nat.le_refl _) _).alloc (by simp <;> omega) _).trans (hb1.mono (by first | assumption | (simp <;> omega) | (simp; done)))) | exact Lib.hid (((((Below.refl w.heap.size w).alloc (Nat.le_refl _) _).alloc (by simp <;> omega) _).alloc (by simp <;> omega) _).trans (hb1.mono (by first | assumption | (simp <;> omega) | (simp; done))))
      clear hb1
      go_simp
      go_wp2_with fail
      refine (H2.out _).mono ?_
      rintro e V2 ⟨rfl, hb2⟩
      have B2 : Hid (Below w.heap.size w V2) := by first | exact Lib.hid ((B1.out).trans (hb2.mono (by have := B1.out.size; first | assumption | (simp <;> omega) | (simp; done)))) | exact Lib.hid (((B1.out).alloc (B1.out.size) _).trans (hb2.mono (by have := B1.out.size; first | assumption | (simp <;> omega) | (simp; done)))) | exact Lib.hid ((((B1.out).alloc (B1.out.size) _).alloc (by have := B1.out.size; simp <;> omega) _).trans (hb2.mono (by have := B1.out.size; first | assumption | (simp <;> omega) | (simp; done)))) | exact Lib.hid (((((B1.out).alloc (B1.out.size) _).alloc (by have := B1.out.size; simp <;> omega) _).alloc (by have := B1.out.size; simp <;> omega) _).trans (hb2.mono (by have := B1.out.size; first | assumption | (simp <;> omega) | (simp; done))))
      clear hb2
      go_simp
      go_wp2_with fail
      refine (H3.out _).mono ?_
      rintro e V3 ⟨rfl, hb3⟩
      have B3 : Hid (Below w.heap.size w V3) := by first | exact Lib.hid ((B2.out).trans (hb3.mono (by have := B2.out.size; first | assumption | (simp <;> omega) | (simp; done)))) | exact Lib.hid (((B2.out).alloc (B2.out.size) _).trans (hb3.mono (by have := B2.out.size; first | assumption | (simp <;> omega) | (simp; done)))) | exact Lib.hid ((((B2.out).alloc (B2.out.size) _).alloc (by have := B2.out.size; simp <;> omega) _).trans (hb3.mono (by have := B2.out.size; first | assumption | (simp <;> omega) | (simp; done)))) | exact Lib.hid (((((B2.out).alloc (B2.out.size) _).alloc (by have := B2.out.size; simp <;> omega) _).alloc (by have := B2.out.size; simp <;> omega) _).trans (hb3.mono (by have := B2.out.size; first | assumption | (simp <;> omega) | (simp; done))))
      clear hb3
      go_simp
      go_wp2_with fail
      refine (H4.out _).mono ?_
      rintro e V4 ⟨rfl, hb4⟩
      have B4 : Hid (Below w.heap.size w V4) := by first | exact Lib.hid ((B3.out).trans (hb4.mono (by have := B3.out.size; first | assumption | (simp <;> omega) | (simp; done)))) | exact Lib.hid (((B3.out).alloc (B3.out.size) _).trans (hb4.mono (by have := B3.out.size; first | assumption | (simp <;> omega) | (simp; done)))) | exact Lib.hid ((((B3.out).alloc (B3.out.size) _).alloc (by have := B3.out.size; simp <;> omega) _).trans (hb4.mono (by have := B3.out.size; first | assumption | (simp <;> omega) | (simp; done)))) | exact Lib.hid (((((B3.out).alloc (B3.out.size) _).alloc (by have := B3.out.size; simp <;> omega) _).alloc (by have := B3.out.size; simp <;> omega) _).trans (hb4.mono (by have := B3.out.size; first | assumption | (simp <;> omega) | (simp; done))))
      clear hb4
      go_simp
      go_wp2_with fail
      have xq : V4.cell? ⟨8, 0, none⟩ = some (.int .i64 31) := (tw_keep hM B4.out).tb.md.cell 0 (by decide)
      obtain ⟨W0, hW0⟩ : ∃ W0, W0 = V4 := ⟨_, rfl⟩
      have HB0 := Lib.hid (below_by hW0 (B4.out))
      have HW0 := Lib.hid hW0
      clear hW0
      have xc0 : W0.cell? ⟨8, 0, none⟩ = some (.int .i64 31) := by ((rw [HW0.out]) <;> first | assumption | (simp; done) | (simp; assumption))
      have xl0 : 8 < W0.heap.size := World.block_lt_of_cell? W0 ⟨8, 0, none⟩ xc0
      try rw [← HW0.out]
      go_region_held3 (fun w' => Below W0.heap.size W0 w' ∧ w'.cell? ⟨8, 0, none⟩ = some (.int .i64 31))
    (first
      | ((try go_split_ands); refine ⟨(Below.refl _ _).drew, ?_⟩ <;> first | assumption | (rw [World.cell?_drew]; assumption))
      | ((try go_split_ands); refine ⟨keepS (W0 := W0) ?_ hb1, cellS (W0 := W0) ?_ hb1 ?_ ?_⟩ <;> first | assumption | omega)
      | ((try go_split_ands); refine ⟨keepA (W0 := W0) ?_ _, cellA (W0 := W0) ?_ _ ?_ ?_⟩ <;> first | assumption | omega)
      | ((try go_split_ands); refine ⟨keepAd (W0 := W0) ?_ _, cellAd (W0 := W0) ?_ _ ?_ ?_⟩ <;> first | assumption | omega | exact Below.refl _ _)
      | ((try go_split_ands); (with_reducible refine ⟨keep3 (W0 := W0) ?_ ?_ _ _ _, cell3 (W0 := W0) ?_ _ _ _ ?_ ?_⟩) <;> first | assumption | omega | exact Nat.le_refl _)
      | ((try go_split_ands); refine ⟨keep2 (W0 := W0) ?_ ?_ _ _, cell2 (W0 := W0) ?_ _ _ ?_ ?_⟩ <;> first | assumption | omega | exact Nat.le_refl _)
      | ((try go_split_ands); refine ⟨keepZ (W0 := W0) ?_ ?_ _, cellZ (W0 := W0) ?_ _ ?_ ?_⟩ <;> first | assumption | omega | exact Nat.le_refl _ | exact ⟨_, by assumption⟩))
    (first | (go_at_call 86; (with_reducible refine (H5.out _).mono ?_); rintro e w1 ⟨rfl, hb1⟩; (try go_split_ands); have hge : W0.heap.size ≤ w1.heap.size := (by first | (refine (keepS (W0 := W0) ?_ hb1).size; assumption) | exact (hb1.size : W0.heap.size ≤ w1.heap.size)); (try have hrow := row_call hb1 hrow); (try have hrow := row_new hb1); (try have hrow := row_newd hb1); have hl1 := lt_below hb1; obtain ⟨hc1, hf1⟩ := bcell hb1; (try (have hrc := row_cellA hrow; clear hc1 hf1)); (try have hrf := row_frozA hrow)) | (go_at_call 86; (with_reducible refine (H6.out _).mono ?_); rintro e w1 ⟨rfl, hb1⟩; (try go_split_ands); have hge : W0.heap.size ≤ w1.heap.size := (by first | (refine (keepS (W0 := W0) ?_ hb1).size; assumption) | exact (hb1.size : W0.heap.size ≤ w1.heap.size)); (try have hrow := row_call hb1 hrow); (try have hrow := row_new hb1); (try have hrow := row_newd hb1); have hl1 := lt_below hb1; obtain ⟨hc1, hf1⟩ := bcell hb1; (try (have hrc := row_cellA hrow; clear hc1 hf1)); (try have hrf := row_frozA hrow)) | (go_at_call 86; (with_reducible refine (H7.out _).mono ?_); rintro e w1 ⟨rfl, hb1⟩; (try go_split_ands); have hge : W0.heap.size ≤ w1.heap.size := (by first | (refine (keepS (W0 := W0) ?_ hb1).size; assumption) | exact (hb1.size : W0.heap.size ≤ w1.heap.size)); (try have hrow := row_call hb1 hrow); (try have hrow := row_new hb1); (try have hrow := row_newd hb1); have hl1 := lt_below hb1; obtain ⟨hc1, hf1⟩ := bcell hb1; (try (have hrc := row_cellA hrow; clear hc1 hf1)); (try have hrf := row_frozA hrow)) | (go_at_call 86; (with_reducible refine (H8.out _).mono ?_); rintro e w1 ⟨rfl, hb1⟩; (try go_split_ands); have hge : W0.heap.size ≤ w1.heap.size := (by first | (refine (keepS (W0 := W0) ?_ hb1).size; assumption) | exact (hb1.size : W0.heap.size ≤ w1.heap.size)); (try have hrow := row_call hb1 hrow); (try have hrow := row_new hb1); (try have hrow := row_newd hb1); have hl1 := lt_below hb1; obtain ⟨hc1, hf1⟩ := bcell hb1; (try (have hrc := row_cellA hrow; clear hc1 hf1)); (try have hrf := row_frozA hrow)) | (go_at_call 86; (with_reducible refine (H9.out _).mono ?_); rintro e w1 ⟨rfl, hb1⟩; (try go_split_ands); have hge : W0.heap.size ≤ w1.heap.size := (by first | (refine (keepS (W0 := W0) ?_ hb1).size; assumption) | exact (hb1.size : W0.heap.size ≤ w1.heap.size)); (try have hrow := row_call hb1 hrow); (try have hrow := row_new hb1); (try have hrow := row_newd hb1); have hl1 := lt_below hb1; obtain ⟨hc1, hf1⟩ := bcell hb1; (try (have hrc := row_cellA hrow; clear hc1 hf1)); (try have hrf := row_frozA hrow)) | (go_at_call 87; (with_reducible refine (H0.out _ ?_).mono ?_); (focus (refine tw_keep (Lib.hid (tw_keep hM HB0.out)) ?_; first | assumption | (with_reducible exact (Below.refl _ _).drew) | (go_split_ands; done) | ((try go_split_ands); assumption))); rintro e w1 ⟨rfl, hb1⟩; (try go_split_ands); have hge : W0.heap.size ≤ w1.heap.size := (by first | (refine (keepS (W0 := W0) ?_ hb1).size; assumption) | exact (hb1.size : W0.heap.size ≤ w1.heap.size)); (try have hrow := row_call hb1 hrow); (try have hrow := row_new hb1); (try have hrow := row_newd hb1); have hl1 := lt_below hb1; obtain ⟨hc1, hf1⟩ := bcell hb1; (try (have hrc := row_cellA hrow; clear hc1 hf1)); (try have hrf := row_frozA hrow)) | (go_at_call 87; refine (H0.out _ (by first | exact tw_keep (Lib.hid (tw_keep hM HB0.out)) (by assumption) | exact tw_keep (Lib.hid (tw_keep hM HB0.out)) (by (try go_split_ands); assumption) | exact tw_keep (Lib.hid (tw_keep hM HB0.out)) (Below.refl _ _).drew)).mono ?_; rintro e w1 ⟨rfl, hb1⟩; (try go_split_ands); have hge : W0.heap.size ≤ w1.heap.size := (by first | (refine (keepS (W0 := W0) ?_ hb1).size; assumption) | exact (hb1.size : W0.heap.size ≤ w1.heap.size)); (try have hrow := row_call hb1 hrow); (try have hrow := row_new hb1); (try have hrow := row_newd hb1); have hl1 := lt_below hb1; obtain ⟨hc1, hf1⟩ := bcell hb1; (try (have hrc := row_cellA hrow; clear hc1 hf1)); (try have hrf := row_frozA hrow)))
      all_goals (try go_split_ands)
      all_goals (go_wp2; go_ret2; exact ⟨by first | rfl | simp, HB0.out.trans (Below.mono (by assumption) HB0.out.size)⟩)
end Go.Proofs.YteinjdmkmfeniaaGreatDoor
namespace Go.Proofs.YteinjdmkmfeniaaGreatDoor
set_option linter.unusedVariables false
open Go.ChangeShapes Go.WideShapes Go.ChangeAt Go.RowKit
theorem gDN : Tryz.prog.globalNamed "analemma/words.dayNames" = some 2 := by kernel_rfl
theorem tDN : (Tryz.prog.globals[2]?).map (·.type) = some 93 := by kernel_rfl
theorem cDN : Tryz.prog.cellsOf 93 = 7 := by kernel_rfl
theorem cStr : Tryz.prog.cellsOf 9 = 1 := by kernel_rfl
theorem ml_of_shaped {W : World} (h : W.ShapedOpen Tryz.prog) : ML W := by
  obtain ⟨m, hm⟩ := cell_of_shapedOpen_int (g := 4) (t := 3) (zero := #[.int .i64 0]) (k := .i64) h (of_decide_eq_true (by kernel_rfl)) (by kernel_rfl) rfl (by kernel_rfl) (by kernel_rfl) Tryz.underlying3
  exact ⟨⟨m, hm⟩, World.block_lt_of_cell? W ⟨4, 0, none⟩ hm⟩
end Go.Proofs.YteinjdmkmfeniaaGreatDoor
