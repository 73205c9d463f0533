/- Several texts in one: RpD, RpE, RpF, RpG, RpH. -/
import Derived.Test.YteinjdmkmfeniaaGreatDoorZRul1
import Derived.Test.YteinjdmkmfeniaaGreatDoorZRp1
import Derived.Test.YteinjdmkmfeniaaGreatDoorZLex2
import Derived.Deep.RegionLaw
import Derived.Deep.AppendLies
import Derived.Lib.AppendIntMem
import Derived.Lib.ItoaLen
namespace Go.Proofs.YteinjdmkmfeniaaGreatDoor
set_option linter.unusedVariables false
set_option linter.unusedSimpArgs false
open Go.ChangeShapes Go.WideShapes Go.ChangeAt Go.RowKit
theorem tenW_of {ws : List (List UInt8)} (h : ws.length = 10) : ∃ a b c d e f g i j k, ws = [a, b, c, d, e, f, g, i, j, k] := by
  match ws, h with
  | [a, b, c, d, e, f, g, i, j, k], _ => exact ⟨a, b, c, d, e, f, g, i, j, k, rfl⟩
theorem ru_10 (x0 x1 x2 x3 x4 x5 x6 x7 x8 x9 : List UInt8) : ruE [x0, x1, x2, x3, x4, x5, x6, x7, x8, x9] =
    if (yrsR x1 x2).2.2 ≠ 0 then (yrsR x1 x2).2.2 else if monI x3 = 0 then 2 else if (dayR x4).2.2.2 ≠ 0 then (dayR x4).2.2.2 else if timE x5 ≠ 0 then timE x5 else if offE x6 ≠ 0 then offE x6
    else if (triR x7 x8 x9).2.2.2 ≠ 0 then (triR x7 x8 x9).2.2.2 else if (yrsR x1 x2).2.1 < (yrsR x1 x2).1 then 5 else 0 := by
  unfold ruE
  rw [if_neg (by simp)]
  rfl
set_option maxHeartbeats 1600000 in
theorem pYearly_any (ws : List (List UInt8)) (h10 : ws.length = 10) (hw : ∀ x ∈ ws, x.length ≤ 100000) (A : Option Addr) (c : Nat) (hc : 10 ≤ c) (w : World) (hK : KX w) (hR : Rd w A (ws.map strV)) :
    Calls Tryz.prog 79 #[.slice A 10 c] w fun e w' => ((ruE ws = 0 ∧ e = .returned (linA (ruL ws))) ∨ (ruE ws ≠ 0 ∧ e = pan (ruE ws))) ∧ Below w.heap.size w w' := by
  obtain ⟨x0, x1, x2, x3, x4, x5, x6, x7, x8, x9, rfl⟩ := tenW_of h10
  obtain ⟨b, o, rfl, hb, hcell⟩ := hR.wrd (k := 0) (by simp)
  have k1 : w.cell? ⟨b, o + 1, none⟩ = some (.string (bs x1)) := hcell 1 (by simp)
  have k2 : w.cell? ⟨b, o + 2, none⟩ = some (.string (bs x2)) := hcell 2 (by simp)
  have k3 : w.cell? ⟨b, o + 3, none⟩ = some (.string (bs x3)) := hcell 3 (by simp)
  have k4 : w.cell? ⟨b, o + 4, none⟩ = some (.string (bs x4)) := hcell 4 (by simp)
  have k5 : w.cell? ⟨b, o + 5, none⟩ = some (.string (bs x5)) := hcell 5 (by simp)
  have k6 : w.cell? ⟨b, o + 6, none⟩ = some (.string (bs x6)) := hcell 6 (by simp)
  have k7 : w.cell? ⟨b, o + 7, none⟩ = some (.string (bs x7)) := hcell 7 (by simp)
  have k8 : w.cell? ⟨b, o + 7 + 1, none⟩ = some (.string (bs x8)) := hcell 8 (by simp)
  have k9 : w.cell? ⟨b, o + 7 + 2, none⟩ = some (.string (bs x9)) := hcell 9 (by simp)
  have m1 := hw x1 (by simp)
  have m2 := hw x2 (by simp)
  have m4 := hw x4 (by simp)
  have m5 := hw x5 (by simp)
  have m6 := hw x6 (by simp)
  have m7 := hw x7 (by simp)
  have m9 := hw x9 (by simp)
  have hTw : Hid (TW w) := Lib.hid hK.tw
  have hKh : Hid (KX w) := Lib.hid hK
  have g : ∀ {W : World}, Below w.heap.size w W → ∀ j u, w.cell? ⟨b, j, none⟩ = some u → W.cell? ⟨b, j, none⟩ = some u := fun hW j u hu => (hW.cell (p := ⟨b, j, none⟩) hb).trans hu
  have HTok : (triR x7 x8 x9).2.2.2 = 0 → ∀ W, Below w.heap.size w W → Calls Tryz.prog 94 #[.slice (some ⟨b, o + 7, none⟩) 3 (c - 7)] W fun e w' => e = .returned (.agg #[.int .i64 (triR x7 x8 x9).1, .bool (triR x7 x8 x9).2.1, .string (bs (triR x7 x8 x9).2.2.1)]) ∧ Below W.heap.size W w' := fun ht W hW =>
    pTriple_ok x7 x8 x9 m7 m9 3 (c - 7) W b (o + 7) (Nat.le_refl _) (by have := hW.size; omega) (g hW _ _ k7) (g hW _ _ k8) (g hW _ _ k9) ht
  have HTno : (triR x7 x8 x9).2.2.2 ≠ 0 → ∀ W, Below w.heap.size w W → Calls Tryz.prog 94 #[.slice (some ⟨b, o + 7, none⟩) 3 (c - 7)] W fun e w' => e = pan (triR x7 x8 x9).2.2.2 ∧ Below W.heap.size W w' := fun ht W hW =>
    pTriple_no x7 x8 x9 m7 m9 3 (c - 7) W b (o + 7) (Nat.le_refl _) (by have := hW.size; omega) (g hW _ _ k7) (g hW _ _ k8) (g hW _ _ k9) ht
  have hMo : monI x3 ≠ 0 → ∀ w, KX w → Calls Tryz.prog 97 #[.string (bs x3)] w fun e w' => e = .returned (.int .i64 (monI x3)) ∧ Below w.heap.size w w' := fun h w hk => (pMonth15_p x3 w hk.mn).mono fun e w' ⟨a, b⟩ => by
    rcases a with ⟨_, a⟩ | ⟨a, _⟩
    · exact ⟨a, b ▸ Below.refl _ _⟩
    · exact absurd a h
  have hMn : monI x3 = 0 → ∀ w, KX w → Calls Tryz.prog 97 #[.string (bs x3)] w fun e w' => e = pan 2 ∧ Below w.heap.size w w' := fun h w hk => (pMonth15_p x3 w hk.mn).mono fun e w' ⟨a, b⟩ => by
    rcases a with ⟨a, _⟩ | ⟨_, a⟩
    · exact absurd h a
    · exact ⟨a, b ▸ Below.refl _ _⟩
  have H1 := pYear_any x1 m1
  have H4 := pDay_any x4 m4
  have H5 := pTime_any x5 m5
  have H6 := pOffset_any x6 m6
  rw [ru_10]
  clear hcell hR hw k7 k8 k9 h10
  by_cases e1 : numE x1 (-9999) 9999 ≠ 0
  · have := yrs_err (x2 := x2) e1
    rw [this, if_pos e1]
    refine (pYearly_year _ b o c w hb x1 x2 x3 x4 x5 x6 hTw hKh _ 0 0 0 0 0 0 0 0 false [] hc (Lib.hid k1) (Lib.hid k2) (Lib.hid k3) (Lib.hid k4) (Lib.hid k5) (Lib.hid k6) (Lib.hid H1) (Lib.hid fun w => grow3 (pSureInt_no _ _ e1 w))).mono fun e w' ⟨a, b⟩ => ⟨Or.inr ⟨e1, a⟩, b⟩
  have z1 := Classical.not_not.1 e1
  rw [z1] at H1
  have S1 := Lib.hid (fun w => grow3 (pSureInt_ok (numV x1 (-9999) 9999) w))
  have hfst := yrs_fst (x2 := x2) z1
  by_cases e2 : (yrsR x1 x2).2.2 ≠ 0
  · rw [if_pos e2]
    exact (pYearly_to _ b o c w hb x1 x2 x3 x4 x5 x6 hTw hKh _ 0 0 0 0 0 0 0 0 false [] hc (Lib.hid k1) (Lib.hid k2) (Lib.hid k3) (Lib.hid k4) (Lib.hid k5) (Lib.hid k6) (Lib.hid H1) S1 (Lib.hid (pEnd_err x1 x2 m2 z1 e2))).mono fun e w' ⟨a, b⟩ => ⟨Or.inr ⟨e2, a⟩, b⟩
  rw [if_neg e2]
  have S2 := Lib.hid (pEnd_yes x1 x2 m2 z1 (Classical.not_not.1 e2))
  by_cases e3 : monI x3 = 0
  · rw [if_pos e3]
    exact (pYearly_month _ b o c w hb x1 x2 x3 x4 x5 x6 hTw hKh _ _ 0 0 0 0 0 0 0 false [] hc (Lib.hid k1) (Lib.hid k2) (Lib.hid k3) (Lib.hid k4) (Lib.hid k5) (Lib.hid k6) (Lib.hid H1) S1 S2 (Lib.hid (hMn e3))).mono fun e w' ⟨a, b⟩ => ⟨Or.inr ⟨by decide, a⟩, b⟩
  rw [if_neg e3]
  have S3 := Lib.hid (hMo e3)
  by_cases e4 : (dayR x4).2.2.2 ≠ 0
  · rw [if_pos e4]
    exact (pYearly_day _ b o c w hb x1 x2 x3 x4 x5 x6 hTw hKh _ _ _ _ _ _ 0 0 0 false [] hc (Lib.hid k1) (Lib.hid k2) (Lib.hid k3) (Lib.hid k4) (Lib.hid k5) (Lib.hid k6) (Lib.hid H1) S1 S2 S3 (Lib.hid H4) (Lib.hid fun w => pSureDay_no _ _ _ _ e4 w)).mono fun e w' ⟨a, b⟩ => ⟨Or.inr ⟨e4, a⟩, b⟩
  rw [if_neg e4]
  rw [Classical.not_not.1 e4] at H4
  have S4 := Lib.hid (fun w => pSureDay_ok (dayR x4).1 (dayR x4).2.1 (dayR x4).2.2.1 w)
  by_cases e5 : timE x5 ≠ 0
  · rw [if_pos e5]
    exact (pYearly_time _ b o c w hb x1 x2 x3 x4 x5 x6 hTw hKh _ _ _ _ _ _ _ 0 0 false [] hc (Lib.hid k1) (Lib.hid k2) (Lib.hid k3) (Lib.hid k4) (Lib.hid k5) (Lib.hid k6) (Lib.hid H1) S1 S2 S3 (Lib.hid H4) S4 (Lib.hid H5) (Lib.hid fun w => grow3 (pSureInt_no _ _ e5 w))).mono fun e w' ⟨a, b⟩ => ⟨Or.inr ⟨e5, a⟩, b⟩
  rw [if_neg e5]
  rw [Classical.not_not.1 e5] at H5
  have S5 := Lib.hid (fun w => grow3 (pSureInt_ok (timV x5) w))
  by_cases e6 : offE x6 ≠ 0
  · rw [if_pos e6]
    exact (pYearly_read _ b o c w hb x1 x2 x3 x4 x5 x6 hTw hKh _ _ _ _ _ _ _ _ 0 false [] hc (Lib.hid k1) (Lib.hid k2) (Lib.hid k3) (Lib.hid k4) (Lib.hid k5) (Lib.hid k6) (Lib.hid H1) S1 S2 S3 (Lib.hid H4) S4 (Lib.hid H5) S5 (Lib.hid H6) (Lib.hid fun w => grow3 (pSureInt_no _ _ e6 w))).mono fun e w' ⟨a, b⟩ => ⟨Or.inr ⟨e6, a⟩, b⟩
  rw [if_neg e6]
  rw [Classical.not_not.1 e6] at H6
  have S6 := Lib.hid (fun w => grow3 (pSureInt_ok (offV x6) w))
  by_cases e7 : (triR x7 x8 x9).2.2.2 ≠ 0
  · rw [if_pos e7]
    exact (pYearly_tri _ b o c w hb x1 x2 x3 x4 x5 x6 hTw hKh _ _ _ _ _ _ _ _ 0 false [] hc (Lib.hid k1) (Lib.hid k2) (Lib.hid k3) (Lib.hid k4) (Lib.hid k5) (Lib.hid k6) (Lib.hid H1) S1 S2 S3 (Lib.hid H4) S4 (Lib.hid H5) S5 (Lib.hid H6) S6 (Lib.hid (HTno e7))).mono fun e w' ⟨a, b⟩ => ⟨Or.inr ⟨e7, a⟩, b⟩
  rw [if_neg e7, hfst]
  have S7 := Lib.hid (HTok (Classical.not_not.1 e7))
  by_cases e8 : (yrsR x1 x2).2.1 < numV x1 (-9999) 9999
  · rw [if_pos e8]
    exact (pYearly_fall 0 b o c w hb x1 x2 x3 x4 x5 x6 hTw hKh _ _ _ _ _ _ _ _ _ _ _ hc (Lib.hid k1) (Lib.hid k2) (Lib.hid k3) (Lib.hid k4) (Lib.hid k5) (Lib.hid k6) (Lib.hid H1) S1 S2 S3 (Lib.hid H4) S4 (Lib.hid H5) S5 (Lib.hid H6) S6 S7 (decide_eq_true e8)).mono fun e w' ⟨a, b⟩ => ⟨Or.inr ⟨by decide, a⟩, b⟩
  rw [if_neg e8]
  refine (pYearly_ok 0 b o c w hb x1 x2 x3 x4 x5 x6 hTw hKh _ _ _ _ _ _ _ _ _ _ _ hc (Lib.hid k1) (Lib.hid k2) (Lib.hid k3) (Lib.hid k4) (Lib.hid k5) (Lib.hid k6) (Lib.hid H1) S1 S2 S3 (Lib.hid H4) S4 (Lib.hid H5) S5 (Lib.hid H6) S6 S7 (decide_eq_false e8)).mono fun e w' ⟨a, b⟩ => ⟨Or.inl ⟨rfl, ?_⟩, b⟩
  rw [a]
  have hl : ruL [x0, x1, x2, x3, x4, x5, x6, x7, x8, x9] = ⟨2, 0, (yrsR x1 x2).1, (yrsR x1 x2).2.1, monI x3, (dayR x4).1, (dayR x4).2.1, (dayR x4).2.2.1, timV x5, offV x6, (triR x7 x8 x9).1, (triR x7 x8 x9).2.1, (triR x7 x8 x9).2.2.1⟩ := rfl
  rw [hl, hfst]
theorem pOnce_any (ws : List (List UInt8)) (hl : 0 < ws.length) (h0 : wd ws 0 = atW) (hw : ∀ x ∈ ws, x.length ≤ 100000) (A : Option Addr) (c : Nat) (hc : ws.length ≤ c) (w : World) (hK : KX w) (hR : Rd w A (ws.map strV)) :
    Calls Tryz.prog 78 #[.slice A ws.length c] w fun e w' => ((aliE ws = 0 ∧ e = .returned (linA (aliL ws))) ∨ (aliE ws ≠ 0 ∧ e = pan (aliE ws))) ∧ Below w.heap.size w w' := by
  by_cases h5 : ws.length = 5
  · obtain ⟨x0, x1, x2, x3, x4, rfl⟩ := five_of h5
    by_cases hE : aliE [x0, x1, x2, x3, x4] = 0
    · exact (pOnce_ok x0 x1 x2 x3 x4 h0 (hw x1 (by simp)) (hw x2 (by simp)) (hw x4 (by simp)) A c hc w hK hR hE).mono fun e w' ⟨a, b⟩ => ⟨Or.inl ⟨hE, a⟩, b⟩
    · exact (pOnce_no x0 x1 x2 x3 x4 h0 (hw x1 (by simp)) (hw x2 (by simp)) (hw x4 (by simp)) A c hc w hK hR hE).mono fun e w' ⟨a, b⟩ => ⟨Or.inr ⟨hE, a⟩, b⟩
  · have hE : aliE ws = 2 := if_pos h5
    rw [hE]
    exact (pOnce_len ws hl h5 A c w hR).mono fun e w' ⟨a, b⟩ => ⟨Or.inr ⟨by decide, a⟩, b⟩
theorem row_shut {P : Program} {ops : Array Oper} {rest : List Oper} {o : Oper} {a : Act} {w W : World} {Q : Exit → Act → World → Prop} (hgd : o.guard = none) (x y : Operand) (ho : o.op = .store 41 x y) {l : Lin} (hi : (P.info? 41).map (·.size) = some 13)
    (hx : a.eval x = .pointer (some ⟨w.heap.size, 0, none⟩)) (hy : a.eval y = .agg (linC l)) (hz : W.heap[w.heap.size]? = some (.cells (linC lin0) 41 (0, 0))) (hb : Below w.heap.size w W) (h : ∀ W', W'.heap[w.heap.size]? = some (.cells (linC l) 41 (0, 0)) → Below w.heap.size w W' → wpList P ops Q rest (a.put o.dst undef) W') : wpList P ops Q (o :: rest) a W :=
  wpList_store_row hgd _ x y ho _ _ hx hy _ _ hz hi rfl (by simp [linC, Value.oneCell']) (h _ (setRow_heap _ _ _ _ _ _ hz) (keepRow hb (Nat.le_refl _) _))
theorem linA_C (l : Lin) : linA l = .agg (linC l) := rfl
theorem row_keep {W W' : World} {b : Nat} {o : Obj} (h : W.heap[b]? = some o) (hb : Below W.heap.size W W') : W'.heap[b]? = some o := (hb.block b (Array.getElem?_eq_some_iff.1 h).1).trans h
set_option maxHeartbeats 3200000 in
set_option maxRecDepth 100000 in
theorem pThird_any (M : Nat) (vA : Option Addr) (vc : Nat) (ls : List Lin) (ws : List (List UInt8)) (hl : 0 < ws.length) (hw : ∀ x ∈ ws, x.length ≤ 100000) (A : Option Addr) (c : Nat) (hc : ws.length ≤ c) (w : World) (hK : KX w) (hR : Rd w A (ws.map strV))
    (hM : M < w.heap.size) (hV : w.cell? ⟨M, 4, none⟩ = some (.slice vA ls.length vc)) (hL : Rd w vA (linVs ls)) (h16 : ls.length ≤ 16) (hT : tailN ls ≤ 4) (hok : ∀ x ∈ ls, OkL x) :
    Calls Tryz.prog 65 #[.pointer (some ⟨M, 0, none⟩), .slice A ws.length c] w fun e w' => ((lnE ls ws = 0 ∧ e = .returned (linA (lnL ws))) ∨ (lnE ls ws ≠ 0 ∧ e = pan (lnE ls ws))) ∧ Below w.heap.size w w' := by
  have hcM : ∀ W, Below w.heap.size w W → W.cell? ⟨M, 4, none⟩ = some (.slice vA ls.length vc) := fun W hW => (hW.cell (p := ⟨M, 4, none⟩) hM).trans hV
  by_cases c16 : 16 ≤ ls.length
  · have E : lnE ls ws = 1 := if_pos c16
    rw [E]
    have q : ((ls.length : Int) == 16) = true := by rw [beq_iff_eq]; omega
    replace hcM := Lib.hid hcM
    clear hV hL hR hw hok hT
    generalize ls.length = N at *
    replace c16 := Lib.hid c16
    go_enter Tryz.func65, Tryz.ntmps65
    refine wp_shut ?_
    have m1 := hcM.out (w.alloc (.cells (linC lin0) 41)) ((Below.refl _ w).alloc (Nat.le_refl _) _)
    rw [linC0] at m1
    go_wp2
    exact ⟨rfl, Or.inr ⟨by decide, rfl⟩, (Below.refl _ w).alloc (Nat.le_refl _) _⟩
  have q16 : ((ls.length : Int) == 16) = false := beq_false_of_ne (by omega)
  obtain ⟨b, o, rfl, hb, hcell⟩ := hR.wrd (k := 0) hl
  have k0 : ∀ W, Below w.heap.size w W → W.cell? ⟨b, o, none⟩ = some (.string (bs (wd ws 0))) := fun W hW => (hW.cell (p := ⟨b, o, none⟩) hb).trans (by have := hcell 0 hl; rw [← wdr_at ws 0 hl, Nat.add_zero] at this; exact this)
  have hz0 : (0 : Int) < (ws.length : Int) := Int.natCast_pos.2 hl
  have l0 := bs_list (wd ws 0)
  by_cases hat : wd ws 0 = atW
  · have E : lnE ls ws = aliE ws := by unfold lnE; rw [if_neg c16, if_pos hat]
    have L : lnL ws = aliL ws := if_pos hat
    rw [E, L]
    have q1 : (wd ws 0 == [97, 116]) = true := by rw [hat]; rfl
    have HO : Hid (∀ W, Below w.heap.size w W → Calls Tryz.prog 78 #[.slice (some ⟨b, o, none⟩) ws.length c] W fun e w' => ((aliE ws = 0 ∧ e = .returned (linA (aliL ws))) ∨ (aliE ws ≠ 0 ∧ e = pan (aliE ws))) ∧ Below W.heap.size W w') := Lib.hid (fun W hW => pOnce_any ws hl hat hw _ c hc W (kx_keep (Lib.hid hK) hW) (hR.below hW (Nat.le_refl _)))
    replace hcM := Lib.hid hcM
    replace k0 := Lib.hid k0
    have B1 := Lib.hid ((Below.refl _ w).alloc (Nat.le_refl _) (.cells (linC lin0) 41))
    have Z1 := Lib.hid (heap_alloc_new w (.cells (linC lin0) 41))
    have m1 := hcM.out _ B1.out
    have m2 := k0.out _ B1.out
    rw [linC0] at m1 m2
    clear hV hL hR hw hok hT E L hat hcell hK
    generalize ls.length = N at *
    generalize ws.length = n at *
    generalize wd ws 0 = x0 at *
    generalize aliE ws = E at *
    generalize aliL ws = l at *
    replace c16 := Lib.hid c16
    have HO2 := Lib.hid (HO.out _ B1.out)
    rw [linC0] at HO2
    go_enter Tryz.func65, Tryz.ntmps65
    refine wp_shut ?_
    go_wp2_with fail
    refine HO2.out.mono ?_
    rintro e w2 ⟨⟨hE, rfl⟩ | ⟨hE, rfl⟩, hb2⟩
    · rw [← linC0] at hb2
      have B2 := Lib.hid (B1.out.trans (hb2.mono B1.out.size))
      have Z2 := row_keep Z1.out hb2
      rw [linA_C]
      clear hb2 m1 m2
      go_wp2_with (first | (refine row_shut (by rfl) _ _ (by rfl) (by kernel_rfl) (by rfl) (by rfl) Z2 B2.out ?_; intro W5 z5 B5; refine Hid.out ?_) | fail)
      refine Lib.hid ?_
      obtain ⟨q0, q1, q2, q3, q4, q5, q6, q7, q8, q9, q10, q11, q12⟩ := li_cells z5
      replace B5 := Lib.hid B5
      clear z5 Z2
      go_wp2
      refine shut_ret (v := linA l) (by simp [linA, results, Tryz.results65, go_sem, q0, q1, q2, q3, q4, q5, q6, q7, q8, q9, q10, q11, q12]) rfl ⟨Or.inl ⟨hE, rfl⟩, B5.out⟩
    · rw [← linC0] at hb2
      exact ⟨rfl, Or.inr ⟨hE, rfl⟩, B1.out.trans (hb2.mono B1.out.size)⟩
  have q1 : (wd ws 0 == [97, 116]) = false := beq_false_of_ne hat
  by_cases hru : wd ws 0 = rulW ∧ ws.length = 10
  · obtain ⟨hru, h10⟩ := hru
    have HX : Hid (∀ W, Below w.heap.size w W → Calls Tryz.prog 60 #[.slice (some ⟨b, o, none⟩) ws.length c, .string ⟨#[114, 117, 108, 101]⟩, .int .i64 10] W fun e w' => e = .returned (.tuple #[]) ∧ W = w') := Lib.hid (fun W hW => by
      have := pExpect_ok ws rulW 10 _ c W (hR.below hW (Nat.le_refl _)) h10 (by decide) hru
      rw [lit_of #[114, 117, 108, 101] rulW rfl] at this
      rw [h10]
      exact this)
    have hl2 : 2 < ws.length := by omega
    have k2 : ∀ W, Below w.heap.size w W → W.cell? ⟨b, o + 2, none⟩ = some (.string (bs (wd ws 2))) := fun W hW => (hW.cell (p := ⟨b, o + 2, none⟩) hb).trans (by have := hcell 2 hl2; rwa [← wdr_at ws 2 hl2] at this)
    have hz2 : (2 : Int) < (ws.length : Int) := by omega
    have l2 := bs_list (wd ws 2)
    have HTl : Hid (∀ W, Below w.heap.size w W → Calls Tryz.prog 17 #[.slice vA ls.length vc] W fun e w' => e = .returned (.int .i64 (tailN ls : Int)) ∧ Below W.heap.size W w') := Lib.hid (fun W hW => by
      have := pTails_any ls vA vc W (by omega) (hL.below hW (Nat.le_refl _))
      rwa [tail_eq hok] at this)
    have HY : Hid (∀ W, Below w.heap.size w W → Calls Tryz.prog 79 #[.slice (some ⟨b, o, none⟩) ws.length c] W fun e w' => ((ruE ws = 0 ∧ e = .returned (linA (ruL ws))) ∨ (ruE ws ≠ 0 ∧ e = pan (ruE ws))) ∧ Below W.heap.size W w') := Lib.hid (fun W hW => by
      rw [h10]
      exact pYearly_any ws h10 hw _ c (by omega) W (kx_keep (Lib.hid hK) hW) (hR.below hW (Nat.le_refl _)))
    have L : lnL ws = ruL ws := if_neg hat
    have E1 : wd ws 2 = onL → tailN ls = 4 → lnE ls ws = 1 := fun a b => by unfold lnE; rw [if_neg c16, if_neg hat, if_pos hru, if_pos ⟨h10, a, by omega⟩]
    have E2 : ¬ (wd ws 2 = onL ∧ tailN ls = 4) → lnE ls ws = ruE ws := fun a => by unfold lnE; rw [if_neg c16, if_neg hat, if_pos hru, if_neg (fun e => a ⟨e.2.1, by omega⟩)]
    rw [L]
    replace hcM := Lib.hid hcM
    replace k0 := Lib.hid k0
    replace k2 := Lib.hid k2
    have B1 := Lib.hid ((Below.refl _ w).alloc (Nat.le_refl _) (.cells (linC lin0) 41))
    have Z1 := Lib.hid (heap_alloc_new w (.cells (linC lin0) 41))
    have m1 := hcM.out _ B1.out
    have m2 := k0.out _ B1.out
    have m3 := k2.out _ B1.out
    have HX1 := Lib.hid (HX.out _ B1.out)
    rw [linC0] at m1 m2 m3 HX1
    have hT' : Hid (tailN ls ≤ 4) := Lib.hid hT
    clear hV hL hR hw hok hT L hat hcell hK HX hru h10
    generalize ls.length = N at *
    generalize ws.length = n at *
    generalize wd ws 0 = x0 at *
    generalize wd ws 2 = x2 at *
    generalize hTN : tailN ls = tn at *
    generalize lnE ls ws = EE at *
    generalize ruE ws = RE at *
    generalize ruL ws = l at *
    replace c16 := Lib.hid c16
    replace hTN := Lib.hid hTN
    have way : (x2 = onL ∧ tn = 4) ∨ (x2 ≠ onL) ∨ (x2 = onL ∧ tn ≠ 4) := by
      by_cases a : x2 = onL
      · by_cases b : tn = 4
        · exact Or.inl ⟨a, b⟩
        · exact Or.inr (Or.inr ⟨a, b⟩)
      · exact Or.inr (Or.inl a)
    rcases way with ⟨a, a4⟩ | a | ⟨a, a4⟩
    · rw [E1 a a4]
      have q2 : (x2 == [111, 110]) = true := by rw [a]; rfl
      have q3 : ((tn : Int) == 4) = true := by rw [a4]; rfl
      clear E1 E2 HY
      replace a := Lib.hid a
      replace a4 := Lib.hid a4
      have HT1 := Lib.hid (HTl.out _ B1.out)
      rw [linC0] at HT1
      go_enter Tryz.func65, Tryz.ntmps65
      refine wp_shut ?_
      go_wp2_with fail
      refine HX1.out.mono ?_
      rintro e w2 ⟨rfl, rfl⟩
      go_wp2_with fail
      refine HT1.out.mono ?_
      rintro e w3 ⟨rfl, hb3⟩
      go_wp2
      rw [← linC0] at hb3
      exact ⟨rfl, Or.inr ⟨by decide, rfl⟩, B1.out.trans (hb3.mono B1.out.size)⟩
    · rw [E2 (fun e => a e.1)]
      have q2 : (x2 == [111, 110]) = false := beq_false_of_ne a
      clear E1 E2 HTl
      replace a := Lib.hid a
      have HY1 := Lib.hid (HY.out _ B1.out)
      rw [linC0] at HY1
      go_enter Tryz.func65, Tryz.ntmps65
      refine wp_shut ?_
      go_wp2_with fail
      refine HX1.out.mono ?_
      rintro e w2 ⟨rfl, rfl⟩
      go_wp2_with fail
      refine HY1.out.mono ?_
      rintro e w2 ⟨⟨hE, rfl⟩ | ⟨hE, rfl⟩, hb2⟩
      · rw [← linC0] at hb2
        have B2 := Lib.hid (B1.out.trans (hb2.mono B1.out.size))
        have Z2 := row_keep Z1.out hb2
        rw [linA_C]
        clear hb2 m1 m2 m3
        go_wp2_with (first | (refine row_shut (by rfl) _ _ (by rfl) (by kernel_rfl) (by rfl) (by rfl) Z2 B2.out ?_; intro W5 z5 B5; refine Hid.out ?_) | fail)
        refine Lib.hid ?_
        obtain ⟨q0, q1, q2, q3, q4, q5, q6, q7, q8, q9, q10, q11, q12⟩ := li_cells z5
        replace B5 := Lib.hid B5
        clear z5 Z2
        go_wp2
        refine shut_ret (v := linA l) (by simp [linA, results, Tryz.results65, go_sem, q0, q1, q2, q3, q4, q5, q6, q7, q8, q9, q10, q11, q12]) rfl ⟨Or.inl ⟨hE, rfl⟩, B5.out⟩
      · rw [← linC0] at hb2
        exact ⟨rfl, Or.inr ⟨hE, rfl⟩, B1.out.trans (hb2.mono B1.out.size)⟩
    · rw [E2 (fun e => a4 e.2)]
      have q2 : (x2 == [111, 110]) = true := by rw [a]; rfl
      have q3 : ((tn : Int) == 4) = false := beq_false_of_ne (by omega)
      clear E1 E2
      replace a := Lib.hid a
      replace a4 := Lib.hid a4
      have HT1 := Lib.hid (HTl.out _ B1.out)
      rw [linC0] at HT1
      go_enter Tryz.func65, Tryz.ntmps65
      refine wp_shut ?_
      go_wp2_with fail
      refine HX1.out.mono ?_
      rintro e w2 ⟨rfl, rfl⟩
      go_wp2_with fail
      refine HT1.out.mono ?_
      rintro e w3 ⟨rfl, hb3⟩
      rw [← linC0] at hb3
      have B3 := Lib.hid (B1.out.trans (hb3.mono B1.out.size))
      have Z3 := Lib.hid (row_keep Z1.out hb3)
      clear hb3 m1 m2 m3
      go_wp2_with fail
      refine (HY.out _ B3.out).mono ?_
      rintro e w2 ⟨⟨hE, rfl⟩ | ⟨hE, rfl⟩, hb2⟩
      · have B2 := Lib.hid (B3.out.trans (hb2.mono B3.out.size))
        have Z2 := row_keep Z3.out hb2
        rw [linA_C]
        clear hb2
        go_wp2_with (first | (refine row_shut (by rfl) _ _ (by rfl) (by kernel_rfl) (by rfl) (by rfl) Z2 B2.out ?_; intro W5 z5 B5; refine Hid.out ?_) | fail)
        refine Lib.hid ?_
        obtain ⟨q0, q1, q2, q3, q4, q5, q6, q7, q8, q9, q10, q11, q12⟩ := li_cells z5
        replace B5 := Lib.hid B5
        clear z5 Z2
        go_wp2
        refine shut_ret (v := linA l) (by simp [linA, results, Tryz.results65, go_sem, q0, q1, q2, q3, q4, q5, q6, q7, q8, q9, q10, q11, q12]) rfl ⟨Or.inl ⟨hE, rfl⟩, B5.out⟩
      · exact ⟨rfl, Or.inr ⟨hE, rfl⟩, B3.out.trans (hb2.mono B3.out.size)⟩
  · have E : lnE ls ws = 2 := by
      unfold lnE
      rw [if_neg c16, if_neg hat]
      by_cases h : wd ws 0 = rulW
      · have h10 : ws.length ≠ 10 := fun e => hru ⟨h, e⟩
        rw [if_pos h, if_neg (fun e => h10 e.1)]
        exact if_pos h10
      · rw [if_neg h]
    rw [E]
    have HX : Hid (∀ W, Below w.heap.size w W → Calls Tryz.prog 60 #[.slice (some ⟨b, o, none⟩) ws.length c, .string ⟨#[114, 117, 108, 101]⟩, .int .i64 10] W fun e w' => e = pan 2 ∧ W = w') := Lib.hid (fun W hW => by
      have := pExpect_no ws rulW 10 _ c W (hR.below hW (Nat.le_refl _)) hl (by
        by_cases h : wd ws 0 = rulW
        · exact Or.inr (fun e => hru ⟨h, e⟩)
        · exact Or.inl h)
      rwa [lit_of #[114, 117, 108, 101] rulW rfl] at this)
    replace hcM := Lib.hid hcM
    replace k0 := Lib.hid k0
    have B1 := Lib.hid ((Below.refl _ w).alloc (Nat.le_refl _) (.cells (linC lin0) 41))
    have m1 := hcM.out _ B1.out
    have m2 := k0.out _ B1.out
    have HX1 := Lib.hid (HX.out _ B1.out)
    rw [linC0] at m1 m2 HX1
    clear hV hL hR hw hok hT E hat hcell hK HX hru
    generalize ls.length = N at *
    generalize ws.length = n at *
    generalize wd ws 0 = x0 at *
    replace c16 := Lib.hid c16
    go_enter Tryz.func65, Tryz.ntmps65
    refine wp_shut ?_
    go_wp2_with fail
    refine HX1.out.mono ?_
    rintro e w2 ⟨rfl, rfl⟩
    rw [← linC0]
    exact ⟨rfl, Or.inr ⟨by decide, rfl⟩, B1.out⟩
end Go.Proofs.YteinjdmkmfeniaaGreatDoor
namespace Go.Proofs.YteinjdmkmfeniaaGreatDoor
set_option linter.unusedVariables false
set_option linter.unusedSimpArgs false
open Go.ChangeShapes Go.WideShapes Go.ChangeAt Go.RowKit
def rdC (z : Src) (v : Value) (n : Nat) (ln : Int) : Array Value := #[.string (bs z.nam), .int .i64 z.off, .bool z.dst, .string (bs z.abb), v, .int .i64 (n : Int), .int .i64 ln]
structure RdH (B : Nat) (w0 w : World) (M : Nat) (z : Src) (n : Nat) (ln : Int) (v : Value) : Prop where
  row : w.heap[M]? = some (.cells (rdC z v n ln) 51 (0, 0))
  own : w.ownsRow B 41 13 v z.lns.length (linVs z.lns)
  bM : B ≤ M
  bel : Below B w0 w
  sz : B ≤ w.heap.size
section
variable {B : Nat} {w0 w w' : World} {M : Nat} {z : Src} {n : Nat} {ln : Int} {v : Value}
theorem RdH.lt (h : RdH B w0 w M z n ln v) : M < w.heap.size := (Array.getElem?_eq_some_iff.1 h.row).1
theorem RdH.vM (h : RdH B w0 w M z n ln v) : v.ownBlock ≠ some M := own_kind h.own h.row (fun c fz e => by injection e with _ e2; exact absurd e2 (by decide))
theorem RdH.call (h : RdH B w0 w M z n ln v) (hb : Below w.heap.size w w') : RdH B w0 w' M z n ln v :=
  ⟨(hb.block M h.lt).trans h.row, own_up h.own hb, h.bM, h.bel.trans (hb.mono h.sz), Nat.le_trans h.sz hb.size⟩
theorem RdH.drew (h : RdH B w0 w M z n ln v) : RdH B w0 w.drew M z n ln v := ⟨h.row, h.own, h.bM, h.bel.drew, h.sz⟩
theorem RdH.alloc (h : RdH B w0 w M z n ln v) (o : Obj) : RdH B w0 (w.alloc o) M z n ln v := h.call ((Below.refl _ w).alloc (Nat.le_refl _) _)
theorem RdH.fz (h : RdH B w0 w M z n ln v) (j : Nat) : w.frozen? ⟨M, j, none⟩ = false := Lib.frozen_of_heap h.row j
theorem RdH.at_ (h : RdH B w0 w M z n ln v) (j : Nat) : w.cell? ⟨M, j, none⟩ = (rdC z v n ln)[j]? := by rw [Lib.cell_of_heap h.row]
theorem RdH.set (h : RdH B w0 w M z n ln v) (j : Nat) (a : Value) (z' : Src) (n' : Nat) (ln' : Int) (hr : (rdC z v n ln).setIfInBounds j a = rdC z' v n' ln') (hl : z'.lns = z.lns) : RdH B w0 (w.setCell ⟨M, j, none⟩ a) M z' n' ln' v := by
  refine ⟨by rw [row_set1 h.row, hr], ?_, h.bM, h.bel.setCell (by exact h.bM) _, ?_⟩
  · rw [hl]; exact own_stay h.own (fun g hg => row_other1 (fun e => h.vM (by rw [hg, e])) rfl j a)
  · have e := h.sz
    simpa [World.setCell] using e
theorem RdH.app (h : RdH B w0 w M z n ln v) {w1 : World} {x : Obj} {g cap : Nat} (l : Lin) (hown : w1.ownsRow B 41 13 (.slice (some ⟨g, 0, none⟩) (z.lns.length + 1) cap) (z.lns.length + 1) (linVs z.lns ++ linV l)) (hg : (w.alloc x).grownBy w1 v.ownBlock) :
    w1.heap[M]? = some (.cells (rdC z v n ln) 51 (0, 0)) ∧ RdH B w0 (w1.setCell ⟨M, 4, none⟩ (.slice (some ⟨g, 0, none⟩) (z.lns.length + 1) cap)) M { z with lns := z.lns ++ [l] } n ln (.slice (some ⟨g, 0, none⟩) (z.lns.length + 1) cap) := by
  have r1 := (app_keep hg h.lt h.vM).trans h.row
  have v1 : w1.ownsRow B 41 13 (.slice (some ⟨g, 0, none⟩) (z.lns.length + 1) cap) (z.lns ++ [l]).length (linVs (z.lns ++ [l])) := by
    rw [linVs_snoc, List.length_append]
    exact hown
  have vM : Value.ownBlock (.slice (some ⟨g, 0, none⟩) (z.lns.length + 1) cap) ≠ some M := own_kind v1 r1 (fun c fz e => by injection e with _ e2; exact absurd e2 (by decide))
  have hs := hg.size
  have hs2 : (w.alloc x).heap.size = w.heap.size + 1 := by simp
  have hs3 := h.sz
  refine ⟨r1, by rw [row_set1 r1]; rfl, own_stay v1 (fun k hk => row_other1 (fun e => vM (by rw [hk, e])) rfl 4 _), h.bM, (bel_append h.bel h.sz h.own hg).setCell (by exact h.bM) _, ?_⟩
  have e : B ≤ w1.heap.size := by omega
  simpa [World.setCell] using e
end
def KeptR (w w' : World) (M : Nat) (v : Value) : Prop := ∀ k, k < w.heap.size → k ≠ M → v.ownBlock ≠ some k → w'.heap[k]? = w.heap[k]?
theorem KeptR.of {w w' : World} {M : Nat} {v : Value} (h : Below w.heap.size w w') : KeptR w w' M v := fun k hk _ _ => h.block k hk
theorem KeptR.set {w w' : World} {M : Nat} {v : Value} (h : KeptR w w' M v) (j : Nat) (a : Value) : KeptR w (w'.setCell ⟨M, j, none⟩ a) M v := fun k hk hM hv => row_other1 hM (h k hk hM hv) j a
theorem KeptR.call {w w' w'' : World} {M : Nat} {v : Value} (h : KeptR w w' M v) (hs : w.heap.size ≤ w'.heap.size) (hb : Below w'.heap.size w' w'') : KeptR w w'' M v := fun k hk hM hv => (hb.block k (by omega)).trans (h k hk hM hv)
set_option maxHeartbeats 3200000 in
set_option maxRecDepth 100000 in
theorem pTake_zero {B : Nat} {w0 : World} {M : Nat} {z : Src} {ln : Int} {v : Value} (ws : List (List UInt8)) (hl : 0 < ws.length) (hw : ∀ x ∈ ws, x.length ≤ 100000) (A : Option Addr) (c : Nat) (w : World) (hR : Rd w A (ws.map strV)) (hA : ∀ b o, A = some ⟨b, o, none⟩ → b ≠ M) (h : RdH B w0 w M z 0 ln v) :
    Calls Tryz.prog 37 #[.pointer (some ⟨M, 0, none⟩), .slice A ws.length c] w fun e w' => (hdE 0 ws = 0 ∧ e = .returned (.tuple #[]) ∧ RdH B w0 w' M (hdS z 0 ws) 1 ln v ∧ KeptR w w' M v) ∨ (hdE 0 ws ≠ 0 ∧ e = pan (hdE 0 ws) ∧ Below w.heap.size w w') := by
  have c5 : w.cell? ⟨M, 5, none⟩ = some (.int .i64 0) := h.at_ 5
  obtain ⟨b, o, rfl, hb, hcell⟩ := hR.wrd (k := 0) hl
  by_cases h2 : wd ws 0 = zonW ∧ ws.length = 2
  · obtain ⟨h0, h2⟩ := h2
    have E : hdE 0 ws = namE (wd ws 1) := by unfold hdE; rw [if_pos rfl, if_neg (by intro e; rcases e with e | e; exact e h0; exact e h2)]
    have S : hdS z 0 ws = { z with nam := wd ws 1 } := if_pos rfl
    rw [E, S]
    have HX : Hid (Calls Tryz.prog 60 #[.slice (some ⟨b, o, none⟩) ws.length c, .string ⟨#[122, 111, 110, 101]⟩, .int .i64 2] w fun e w' => e = .returned (.tuple #[]) ∧ w = w') := Lib.hid (by
      have := pExpect_ok ws zonW 2 _ c w hR h2 (by decide) h0
      rw [lit_of #[122, 111, 110, 101] zonW rfl] at this
      rw [h2]
      exact this)
    have hl1 : 1 < ws.length := by omega
    have k1 : w.cell? ⟨b, o + 1, none⟩ = some (.string (bs (wd ws 1))) := by have := hcell 1 hl1; rwa [← wdr_at ws 1 hl1] at this
    have hi1 : (1 : Int) < (ws.length : Int) := by omega
    have m1 : (wd ws 1).length ≤ 100000 := by rw [wdr_at ws 1 hl1]; exact hw _ (by simp)
    have HN := Lib.hid (pName_any (wd ws 1) m1)
    have hbM := hA b o rfl
    clear hcell hR hw E S h0 h2 m1 hA hl1
    replace hl := Lib.hid hl
    generalize ws.length = N at *
    generalize wd ws 1 = x1 at *
    have hsz := h.sz
    by_cases hE : namE x1 = 0
    · rw [hE] at HN
      have HS := Lib.hid pMust_ok
      replace hE := Lib.hid hE
      replace h := Lib.hid h
      go_enter Tryz.func37, Tryz.ntmps37
      go_wp2_with fail
      refine HX.out.mono ?_
      rintro e w2 ⟨rfl, rfl⟩
      go_wp2_with fail
      refine (HN.out _).mono ?_
      rintro e w2 ⟨rfl, hb2⟩
      have H2 := Lib.hid (h.out.call hb2)
      have k2 := (hb2.cell (p := ⟨b, o + 1, none⟩) hb).trans k1
      have K2 : Hid (KeptR w w2 M v) := Lib.hid (KeptR.of hb2)
      have s2 := hb2.size
      clear hb2 k1 c5 HX HN
      go_wp2_with fail
      refine (HS.out _).mono ?_
      rintro e w3 ⟨rfl, rfl⟩
      have f0 := H2.out.fz 0
      have c0 : w2.cell? ⟨M, 0, none⟩ = some (.string (bs z.nam)) := H2.out.at_ 0
      have H3 := Lib.hid (H2.out.set 0 (.string (bs x1)) { z with nam := x1 } 0 ln rfl rfl)
      have f5 := H3.out.fz 5
      have c5 : (w2.setCell ⟨M, 0, none⟩ (.string (bs x1))).cell? ⟨M, 5, none⟩ = some (.int .i64 0) := H3.out.at_ 5
      have H4 := Lib.hid (H3.out.set 5 (.int .i64 1) { z with nam := x1 } 1 ln rfl rfl)
      have K4 := Lib.hid ((K2.out.set 0 (.string (bs x1))).set 5 (.int .i64 1))
      go_wp2
      go_end0
      exact Or.inl ⟨hE.out, rfl, H4.out, K4.out⟩
    · have HS := Lib.hid (pMust_no _ hE)
      generalize namE x1 = E at *
      go_enter Tryz.func37, Tryz.ntmps37
      go_wp2_with fail
      refine HX.out.mono ?_
      rintro e w2 ⟨rfl, rfl⟩
      go_wp2_with fail
      refine (HN.out _).mono ?_
      rintro e w2 ⟨rfl, hb2⟩
      go_wp2_with fail
      refine (HS.out _).mono ?_
      rintro e w3 ⟨rfl, rfl⟩
      exact ⟨rfl, Or.inr ⟨hE, rfl, hb2⟩⟩
  · have hn : wd ws 0 ≠ zonW ∨ ws.length ≠ 2 := by
      by_cases a : wd ws 0 = zonW
      · exact Or.inr (fun e => h2 ⟨a, e⟩)
      · exact Or.inl a
    have E : hdE 0 ws = 2 := by unfold hdE; rw [if_pos rfl, if_pos hn]
    rw [E]
    have HX : Hid (Calls Tryz.prog 60 #[.slice (some ⟨b, o, none⟩) ws.length c, .string ⟨#[122, 111, 110, 101]⟩, .int .i64 2] w fun e w' => e = pan 2 ∧ w = w') := Lib.hid (by
      have := pExpect_no ws zonW 2 _ c w hR hl hn
      rwa [lit_of #[122, 111, 110, 101] zonW rfl] at this)
    clear hcell hR hw E h2 hn hA
    replace hl := Lib.hid hl
    generalize ws.length = N at *
    go_enter Tryz.func37, Tryz.ntmps37
    go_wp2_with fail
    refine HX.out.mono ?_
    rintro e w2 ⟨rfl, rfl⟩
    exact ⟨rfl, Or.inr ⟨by decide, rfl, Below.refl _ _⟩⟩
def TkN (B : Nat) (w0 w w' : World) (M : Nat) (ln : Int) (v : Value) : Prop := Below B w0 w' ∧ w'.cell? ⟨M, 6, none⟩ = some (.int .i64 ln) ∧ KeptR w w' M v
theorem TkN.of {B : Nat} {w0 w w' : World} {M : Nat} {z : Src} {n : Nat} {ln : Int} {v : Value} (h : RdH B w0 w M z n ln v) (hb : Below w.heap.size w w') : TkN B w0 w w' M ln v := ⟨(h.call hb).bel, (h.call hb).at_ 6, KeptR.of hb⟩
set_option maxHeartbeats 3200000 in
set_option maxRecDepth 100000 in
theorem pTake_one {B : Nat} {w0 : World} {M : Nat} {z : Src} {ln : Int} {v : Value} (ws : List (List UInt8)) (hl : 0 < ws.length) (hw : ∀ x ∈ ws, x.length ≤ 100000) (A : Option Addr) (c : Nat) (w : World) (hR : Rd w A (ws.map strV)) (hA : ∀ b o, A = some ⟨b, o, none⟩ → b ≠ M) (h : RdH B w0 w M z 1 ln v) (hd : z.dst = false) :
    Calls Tryz.prog 37 #[.pointer (some ⟨M, 0, none⟩), .slice A ws.length c] w fun e w' => (hdE 1 ws = 0 ∧ e = .returned (.tuple #[]) ∧ RdH B w0 w' M (hdS z 1 ws) 2 ln v ∧ KeptR w w' M v) ∨ (hdE 1 ws ≠ 0 ∧ e = pan (hdE 1 ws) ∧ TkN B w0 w w' M ln v) := by
  have c5 : w.cell? ⟨M, 5, none⟩ = some (.int .i64 1) := h.at_ 5
  obtain ⟨b, o, rfl, hb, hcell⟩ := hR.wrd (k := 0) hl
  by_cases h2 : wd ws 0 = basW ∧ ws.length = 3
  · obtain ⟨h0, h2⟩ := h2
    have E : hdE 1 ws = if offE (wd ws 1) ≠ 0 then offE (wd ws 1) else abbE (wd ws 2) := by unfold hdE; rw [if_neg (by decide), if_neg (by intro e; rcases e with e | e; exact e h0; exact e h2)]
    have S : hdS z 1 ws = { z with off := offV (wd ws 1), abb := wd ws 2 } := by unfold hdS; rw [if_neg (by decide), ← hd]
    rw [E, S]
    have HX : Hid (Calls Tryz.prog 60 #[.slice (some ⟨b, o, none⟩) ws.length c, .string ⟨#[98, 97, 115, 101]⟩, .int .i64 3] w fun e w' => e = .returned (.tuple #[]) ∧ w = w') := Lib.hid (by
      have := pExpect_ok ws basW 3 _ c w hR h2 (by decide) h0
      rw [lit_of #[98, 97, 115, 101] basW rfl] at this
      rw [h2]
      exact this)
    have hl1 : 1 < ws.length := by omega
    have hl2 : 2 < ws.length := by omega
    have k1 : w.cell? ⟨b, o + 1, none⟩ = some (.string (bs (wd ws 1))) := by have := hcell 1 hl1; rwa [← wdr_at ws 1 hl1] at this
    have k2 : w.cell? ⟨b, o + 2, none⟩ = some (.string (bs (wd ws 2))) := by have := hcell 2 hl2; rwa [← wdr_at ws 2 hl2] at this
    have hi1 : (1 : Int) < (ws.length : Int) := by omega
    have hi2 : (2 : Int) < (ws.length : Int) := by omega
    have m1 : (wd ws 1).length ≤ 100000 := by rw [wdr_at ws 1 hl1]; exact hw _ (by simp)
    have m2 : (wd ws 2).length ≤ 100000 := by rw [wdr_at ws 2 hl2]; exact hw _ (by simp)
    have hbM := hA b o rfl
    have HO := pOffset_any (wd ws 1) m1
    have HLo := pLetters_ok (wd ws 2) m2
    have HLn := pLetters_no (wd ws 2) m2
    clear hcell hR hw E S h0 h2 m1 m2 hA hl1 hl2
    replace hl := Lib.hid hl
    generalize ws.length = N at *
    generalize wd ws 1 = x1 at *
    generalize wd ws 2 = x2 at *
    have hsz := h.sz
    replace hd := Lib.hid hd
    replace hbM := Lib.hid hbM
    by_cases hE : offE x1 ≠ 0
    · rw [if_pos hE]
      have HS := Lib.hid (pSureInt_no (offV x1) _ hE)
      replace HO := Lib.hid HO
      clear HLo HLn
      generalize offE x1 = E at *
      generalize offV x1 = ov at *
      go_enter Tryz.func37, Tryz.ntmps37
      go_wp2_with fail
      refine HX.out.mono ?_
      rintro e w2 ⟨rfl, rfl⟩
      go_wp2_with fail
      refine (HO.out _).mono ?_
      rintro e w2 ⟨rfl, hb2⟩
      go_wp2_with fail
      refine (HS.out _).mono ?_
      rintro e w3 ⟨rfl, rfl⟩
      exact ⟨rfl, Or.inr ⟨hE, rfl, TkN.of h hb2⟩⟩
    · rw [if_neg hE]
      rw [Classical.not_not.1 hE] at HO
      replace HO := Lib.hid HO
      have HS := Lib.hid (pSureInt_ok (offV x1))
      clear hE
      generalize offV x1 = ov at *
      by_cases hE : abbE x2 = 0
      · have HL := Lib.hid (HLo hE)
        clear HLo HLn
        replace hE := Lib.hid hE
        replace h := Lib.hid h
        go_enter Tryz.func37, Tryz.ntmps37
        go_wp2_with fail
        refine HX.out.mono ?_
        rintro e w2 ⟨rfl, rfl⟩
        go_wp2_with fail
        refine (HO.out _).mono ?_
        rintro e w2 ⟨rfl, hb2⟩
        have H2 := Lib.hid (h.out.call hb2)
        have k3 : Hid (w2.cell? ⟨b, o + 2, none⟩ = some (.string (bs x2))) := Lib.hid ((hb2.cell (p := ⟨b, o + 2, none⟩) hb).trans k2)
        have K2 : Hid (KeptR w w2 M v) := Lib.hid (KeptR.of hb2)
        have s2 := hb2.size
        clear hb2 k1 k2 c5 HX HO
        go_wp2_with fail
        refine (HS.out _).mono ?_
        rintro e w3 ⟨rfl, rfl⟩
        have f1 := H2.out.fz 1
        have c1 : w2.cell? ⟨M, 1, none⟩ = some (.int .i64 z.off) := H2.out.at_ 1
        have H3 := Lib.hid (H2.out.set 1 (.int .i64 ov) { z with off := ov } 1 ln rfl rfl)
        have k4 : (w2.setCell ⟨M, 1, none⟩ (.int .i64 ov)).cell? ⟨b, o + 2, none⟩ = some (.string (bs x2)) := cell_far1 hbM.out k3.out
        go_wp2_with fail
        refine (HL.out _).mono ?_
        rintro e w4 ⟨rfl, hb4⟩
        have H4 := Lib.hid (H3.out.call hb4)
        have K4 := Lib.hid (((K2.out.set 1 (.int .i64 ov)).call (by simpa [World.setCell] using s2) hb4).set 3 (.string (bs x2)))
        clear hb4 k4 f1 c1
        have f3 := H4.out.fz 3
        have c3 : w4.cell? ⟨M, 3, none⟩ = some (.string (bs z.abb)) := H4.out.at_ 3
        have H5 := Lib.hid (H4.out.set 3 (.string (bs x2)) { z with off := ov, abb := x2 } 1 ln rfl rfl)
        have f5 := H5.out.fz 5
        have c5 : (w4.setCell ⟨M, 3, none⟩ (.string (bs x2))).cell? ⟨M, 5, none⟩ = some (.int .i64 1) := H5.out.at_ 5
        have H6 := Lib.hid (H5.out.set 5 (.int .i64 2) { z with off := ov, abb := x2 } 2 ln rfl rfl)
        go_wp2
        go_end0
        exact Or.inl ⟨hE.out, rfl, H6.out, K4.out.set 5 _⟩
      · have HL := Lib.hid (HLn hE)
        clear HLo HLn
        generalize abbE x2 = E at *
        replace h := Lib.hid h
        go_enter Tryz.func37, Tryz.ntmps37
        go_wp2_with fail
        refine HX.out.mono ?_
        rintro e w2 ⟨rfl, rfl⟩
        go_wp2_with fail
        refine (HO.out _).mono ?_
        rintro e w2 ⟨rfl, hb2⟩
        have H2 := Lib.hid (h.out.call hb2)
        have k3 : Hid (w2.cell? ⟨b, o + 2, none⟩ = some (.string (bs x2))) := Lib.hid ((hb2.cell (p := ⟨b, o + 2, none⟩) hb).trans k2)
        have K2 : Hid (KeptR w w2 M v) := Lib.hid (KeptR.of hb2)
        have s2 := hb2.size
        clear hb2 k1 k2 c5 HX HO
        go_wp2_with fail
        refine (HS.out _).mono ?_
        rintro e w3 ⟨rfl, rfl⟩
        have f1 := H2.out.fz 1
        have c1 : w2.cell? ⟨M, 1, none⟩ = some (.int .i64 z.off) := H2.out.at_ 1
        have H3 := Lib.hid (H2.out.set 1 (.int .i64 ov) { z with off := ov } 1 ln rfl rfl)
        have k4 : (w2.setCell ⟨M, 1, none⟩ (.int .i64 ov)).cell? ⟨b, o + 2, none⟩ = some (.string (bs x2)) := cell_far1 hbM.out k3.out
        go_wp2_with fail
        refine (HL.out _).mono ?_
        rintro e w4 ⟨rfl, hb4⟩
        have H4 := H3.out.call hb4
        exact ⟨rfl, Or.inr ⟨hE, rfl, H4.bel, H4.at_ 6, (K2.out.set 1 (.int .i64 ov)).call (by simpa [World.setCell] using s2) hb4⟩⟩
  · have hn : wd ws 0 ≠ basW ∨ ws.length ≠ 3 := by
      by_cases a : wd ws 0 = basW
      · exact Or.inr (fun e => h2 ⟨a, e⟩)
      · exact Or.inl a
    have E : hdE 1 ws = 2 := by unfold hdE; rw [if_neg (by decide), if_pos hn]
    rw [E]
    have HX : Hid (Calls Tryz.prog 60 #[.slice (some ⟨b, o, none⟩) ws.length c, .string ⟨#[98, 97, 115, 101]⟩, .int .i64 3] w fun e w' => e = pan 2 ∧ w = w') := Lib.hid (by
      have := pExpect_no ws basW 3 _ c w hR hl hn
      rwa [lit_of #[98, 97, 115, 101] basW rfl] at this)
    clear hcell hR hw E h2 hn hA
    replace hl := Lib.hid hl
    replace h := Lib.hid h
    generalize ws.length = N at *
    go_enter Tryz.func37, Tryz.ntmps37
    go_wp2_with fail
    refine HX.out.mono ?_
    rintro e w2 ⟨rfl, rfl⟩
    exact ⟨rfl, Or.inr ⟨by decide, rfl, TkN.of h.out (Below.refl _ _)⟩⟩
set_option maxHeartbeats 3200000 in
set_option maxRecDepth 100000 in
theorem pTake_more {B : Nat} {w0 : World} {M : Nat} {z : Src} {n : Nat} {ln : Int} {v : Value} (h2 : 2 ≤ n) (hn : n ≤ 100000) (N c : Nat) (A : Option Addr) (l : Lin) (w : World) (h : RdH B w0 w M z n ln v) (h16 : z.lns.length ≤ 16)
    (HC : Hid (Calls Tryz.prog 65 #[.pointer (some ⟨M, 0, none⟩), .slice A N c] w.drew fun e w' => e = .returned (linA l) ∧ Below w.drew.heap.size w.drew w')) :
    Calls Tryz.prog 37 #[.pointer (some ⟨M, 0, none⟩), .slice A N c] w fun e w' => e = .returned (.tuple #[]) ∧ ∃ v', RdH B w0 w' M { z with lns := z.lns ++ [l] } (n + 1) ln v' ∧ KeptR w w' M v := by
  obtain ⟨i0, hi, hz0, hz1, hz2⟩ := info_parts infoLin
  have c5 : w.cell? ⟨M, 5, none⟩ = some (.int .i64 (n : Int)) := h.at_ 5
  have c4 : w.cell? ⟨M, 4, none⟩ = some v := h.at_ 4
  have q0 : ((n : Int) == 0) = false := beq_false_of_ne (by omega)
  have q1 : ((n : Int) == 1) = false := beq_false_of_ne (by omega)
  have hw1 : IntKind.i64.wrap ((n : Int) + 1) = (n : Int) + 1 := wrap_small _ (by omega) (by omega)
  obtain ⟨A0, k0, g0, rfl, -⟩ := own_form h.own
  replace h := Lib.hid h
  replace h2 := Lib.hid h2
  replace hn := Lib.hid hn
  obtain ⟨lk, lsec, lf, lt, lm, ldk, ldn, ldw, lti, lrd, lof, lds, lab⟩ := l
  go_enter Tryz.func37, Tryz.ntmps37
  go_wp2_with fail
  go_region_law
    (first
      | (refine step_append_lies _ (by rfl) _ _ _ (by rfl) B 41 i0 (.agg #[.int .i64 0, .int .i64 0, .int .i64 0, .int .i64 0, .int .i64 0, .int .i64 0, .int .i64 0, .int .i64 0, .int .i64 0, .int .i64 0, .int .i64 0, .bool false, .string ⟨#[]⟩]) 13 112 Tryz.underlying24 hi hz0 hz1 hz2 rfl (by omega) (.slice A0 z.lns.length k0) z.lns.length (linVs z.lns) (by rfl) (hov.alloc _)
          ⟨w2.heap.size, 0, none⟩ 1 1 [.int .i64 lk, .int .i64 lsec, .int .i64 lf, .int .i64 lt, .int .i64 lm, .int .i64 ldk, .int .i64 ldn, .int .i64 ldw, .int .i64 lti, .int .i64 lrd, .int .i64 lof, .bool lds, .string (bs lab)] (by rfl) (by rfl) (World.news_of_block (cs := #[.int .i64 lk, .int .i64 lsec, .int .i64 lf, .int .i64 lt, .int .i64 lm, .int .i64 ldk, .int .i64 ldn, .int .i64 ldw, .int .i64 lti, .int .i64 lrd, .int .i64 lof, .bool lds, .string (bs lab)]) (t := 41) (fr := (0, 0)) (heap_alloc_new w2 _)) (by simp [Value.oneCell'])
          (by omega) (by unfold maxLen; omega) (by omega) (by simp; omega) (w2.heap.size + 1) (by simp) ?_; intro gg cap w3 hown1 hgrow hat hlt1; (have HT := Lib.hid (H2.out.app (⟨lk, lsec, lf, lt, lm, ldk, ldn, ldw, lti, lrd, lof, lds, lab⟩ : Lin) hown1 hgrow)); (have KT := Lib.hid (fun k hk => app_keep hgrow (g2 := k) hk)); (have d0 : w3.cell? ⟨M, 4, none⟩ = some (.slice A0 z.lns.length k0) := by rw [Lib.cell_of_heap HT.out.1]; rfl); (have e0 : w3.frozen? ⟨M, 4, none⟩ = false := Lib.frozen_of_heap HT.out.1 4))
      | (go_simp; refine HC.out.mono ?_; rintro e w2 ⟨rfl, hb2⟩; (have H2 := Lib.hid (h.out.drew.call hb2)); (have hov := H2.out.own); (have hsz := H2.out.sz); (have c42 : w2.cell? ⟨M, 4, none⟩ = some (.slice A0 z.lns.length k0) := H2.out.at_ 4); (have c43 : ∀ o, (w2.alloc o).cell? ⟨M, 4, none⟩ = some (.slice A0 z.lns.length k0) := fun o => (H2.out.alloc o).at_ 4); (have K2 : Hid (KeptR w w2 M (.slice A0 z.lns.length k0)) := Lib.hid (fun k hk hM hv => hb2.block k hk)); (have s2 : w.heap.size ≤ w2.heap.size := hb2.size); unfold linA))
  all_goals
    have c5' : (w3.setCell ⟨M, 4, none⟩ (.slice (some ⟨gg, 0, none⟩) (z.lns.length + 1) cap)).cell? ⟨M, 5, none⟩ = some (.int .i64 (n : Int)) := HT.out.2.at_ 5
    have f5' := HT.out.2.fz 5
    have H5 := Lib.hid (HT.out.2.set 5 (.int .i64 ((n : Int) + 1)) _ (n + 1) ln (by rfl) rfl)
    have K5 : Hid (KeptR w ((w3.setCell ⟨M, 4, none⟩ (.slice (some ⟨gg, 0, none⟩) (z.lns.length + 1) cap)).setCell ⟨M, 5, none⟩ (.int .i64 ((n : Int) + 1))) M (.slice A0 z.lns.length k0)) := Lib.hid (KeptR.set (KeptR.set (fun k hk hM hv => (KT.out k (by omega) hv).trans (K2.out k hk hM hv)) 4 _) 5 _)
    go_wp2
    go_end0
    exact ⟨rfl, _, H5.out, K5.out⟩
set_option maxHeartbeats 3200000 in
set_option maxRecDepth 100000 in
theorem pTake_bad {B : Nat} {w0 : World} {M : Nat} {z : Src} {n : Nat} {ln : Int} {v : Value} (h2 : 2 ≤ n) (N c : Nat) (A : Option Addr) (E : Int) (w : World) (h : RdH B w0 w M z n ln v)
    (HC : Hid (Calls Tryz.prog 65 #[.pointer (some ⟨M, 0, none⟩), .slice A N c] w.drew fun e w' => e = pan E ∧ Below w.drew.heap.size w.drew w')) :
    Calls Tryz.prog 37 #[.pointer (some ⟨M, 0, none⟩), .slice A N c] w fun e w' => e = pan E ∧ TkN B w0 w w' M ln v := by
  have c5 : w.cell? ⟨M, 5, none⟩ = some (.int .i64 (n : Int)) := h.at_ 5
  have c4 : w.cell? ⟨M, 4, none⟩ = some v := h.at_ 4
  have q0 : ((n : Int) == 0) = false := beq_false_of_ne (by omega)
  have q1 : ((n : Int) == 1) = false := beq_false_of_ne (by omega)
  obtain ⟨A0, k0, g0, rfl, -⟩ := own_form h.own
  replace h := Lib.hid h
  replace h2 := Lib.hid h2
  go_enter Tryz.func37, Tryz.ntmps37
  go_wp2_with fail
  refine region_planQ (S := fun w2 => w2.cell? ⟨M, 4, none⟩ = some (.slice A0 z.lns.length k0)) [(0, true), (1, true), (2, true), (3, true), (4, true), (5, true), (6, true), (7, true), (8, false), (9, false), (10, false), (11, true), (12, true), (13, true), (14, false)] (by as_aux_lemma => kernel_rfl) (by as_aux_lemma => kernel_rfl) (by as_aux_lemma => kernel_rfl) (by as_aux_lemma => kernel_rfl) (by rw [World.cell?_drew]; exact c4) (by first | exact planQ_body | exact planQ_block) ?_
  refine plan_yes (v := ?v0) (by simp only [List.getElem?_toArray, List.getElem?_cons_zero, List.getElem?_cons_succ]; exact rfl) (Or.inl ⟨by as_aux_lemma => rfl, ?hy0⟩) ?rest0
  case hy0 => (intro w2 hSw; (try dsimp only at hSw); go_simp; try with_reducible rfl)
  try simp only [Act.put, List.setIfInBounds_toArray, List.set_cons_zero, List.set_cons_succ]
  refine plan_yes (v := ?v1) (by simp only [List.getElem?_toArray, List.getElem?_cons_zero, List.getElem?_cons_succ]; exact rfl) (Or.inl ⟨by as_aux_lemma => rfl, ?hy1⟩) ?rest1
  case hy1 => (intro w2 hSw; (try dsimp only at hSw); go_simp; try with_reducible rfl)
  try simp only [Act.put, List.setIfInBounds_toArray, List.set_cons_zero, List.set_cons_succ]
  refine plan_yes (v := ?v2) (by simp only [List.getElem?_toArray, List.getElem?_cons_zero, List.getElem?_cons_succ]; exact rfl) (Or.inl ⟨by as_aux_lemma => rfl, ?hy2⟩) ?rest2
  case hy2 => (intro w2 hSw; (try dsimp only at hSw); go_simp; try with_reducible rfl)
  try simp only [Act.put, List.setIfInBounds_toArray, List.set_cons_zero, List.set_cons_succ]
  refine plan_yes (v := ?v3) (by simp only [List.getElem?_toArray, List.getElem?_cons_zero, List.getElem?_cons_succ]; exact rfl) (Or.inl ⟨by as_aux_lemma => rfl, ?hy3⟩) ?rest3
  case hy3 => (intro w2 hSw; (try dsimp only at hSw); go_simp; try with_reducible rfl)
  try simp only [Act.put, List.setIfInBounds_toArray, List.set_cons_zero, List.set_cons_succ]
  refine plan_yes (v := ?v4) (by simp only [List.getElem?_toArray, List.getElem?_cons_zero, List.getElem?_cons_succ]; exact rfl) (Or.inl ⟨by as_aux_lemma => rfl, ?hy4⟩) ?rest4
  case hy4 => (intro w2 hSw; (try dsimp only at hSw); go_simp; try with_reducible rfl)
  try simp only [Act.put, List.setIfInBounds_toArray, List.set_cons_zero, List.set_cons_succ]
  refine plan_yes (v := ?v5) (by simp only [List.getElem?_toArray, List.getElem?_cons_zero, List.getElem?_cons_succ]; exact rfl) (Or.inl ⟨by as_aux_lemma => rfl, ?hy5⟩) ?rest5
  case hy5 => (intro w2 hSw; (try dsimp only at hSw); go_simp; try with_reducible rfl)
  try simp only [Act.put, List.setIfInBounds_toArray, List.set_cons_zero, List.set_cons_succ]
  refine plan_yes (v := ?v6) (by simp only [List.getElem?_toArray, List.getElem?_cons_zero, List.getElem?_cons_succ]; exact rfl) (Or.inl ⟨by as_aux_lemma => rfl, ?hy6⟩) ?rest6
  case hy6 => (intro w2 hSw; (try dsimp only at hSw); go_simp; try with_reducible rfl)
  try simp only [Act.put, List.setIfInBounds_toArray, List.set_cons_zero, List.set_cons_succ]
  refine plan_yes (v := ?v7) (by simp only [List.getElem?_toArray, List.getElem?_cons_zero, List.getElem?_cons_succ]; exact rfl) (Or.inl ⟨by as_aux_lemma => rfl, ?hy7⟩) ?rest7
  case hy7 => (intro w2 hSw; (try dsimp only at hSw); go_simp; try with_reducible rfl)
  try simp only [Act.put, List.setIfInBounds_toArray, List.set_cons_zero, List.set_cons_succ]
  refine plan_calls (by simp only [List.getElem?_toArray, List.getElem?_cons_zero, List.getElem?_cons_succ]; exact rfl) (by as_aux_lemma => rfl) (fun K hK => ?_)
  go_simp
  refine HC.out.mono ?_
  rintro e w5 ⟨rfl, hb5⟩
  exact ⟨rfl, rfl, (h.out.drew.call hb5).bel, (h.out.drew.call hb5).at_ 6, fun k hk hM hv => hb5.block k hk⟩
theorem pTake15_any {B : Nat} {w0 : World} {M : Nat} {z : Src} {n : Nat} {ln : Int} {v : Value} (ws : List (List UInt8)) (hl : 0 < ws.length) (hw : ∀ x ∈ ws, x.length ≤ 100000) (A : Option Addr) (c : Nat) (hc : ws.length ≤ c) (w : World) (hK : KX w) (hR : Rd w A (ws.map strV)) (hA : ∀ b o, A = some ⟨b, o, none⟩ → b ≠ M)
    (h : RdH B w0 w M z n ln v) (hi : RdS n z) (hn : n ≤ 100000) :
    Calls Tryz.prog 37 #[.pointer (some ⟨M, 0, none⟩), .slice A ws.length c] w fun e w' => (stE z n ws = 0 ∧ e = .returned (.tuple #[]) ∧ ∃ v', RdH B w0 w' M (stS z n ws) (n + 1) ln v' ∧ KeptR w w' M v) ∨ (stE z n ws ≠ 0 ∧ e = pan (stE z n ws) ∧ TkN B w0 w w' M ln v) := by
  by_cases h2 : n < 2
  · rw [stE_lt h2, stS_lt h2]
    by_cases h0 : n = 0
    · subst h0
      refine (pTake_zero ws hl hw A c w hR hA h).mono fun e w' a => ?_
      rcases a with ⟨a, b, c, d⟩ | ⟨a, b, c⟩
      · exact Or.inl ⟨a, b, v, c, d⟩
      · exact Or.inr ⟨a, b, TkN.of h c⟩
    · obtain rfl : n = 1 := by omega
      refine (pTake_one ws hl hw A c w hR hA h hi.1).mono fun e w' a => ?_
      rcases a with ⟨a, b, c, d⟩ | ⟨a, b, c⟩
      · exact Or.inl ⟨a, b, v, c, d⟩
      · exact Or.inr ⟨a, b, c⟩
  · rw [stE_ge h2, stS_ge h2]
    obtain ⟨i16, i4, _, _, _, iok⟩ := hi.2.2.2 (by omega)
    obtain ⟨VA, vc, vg, rfl, -⟩ := own_form h.own
    have H := pThird_any M VA vc z.lns ws hl hw A c hc w.drew (kx_keep (Lib.hid hK) (Below.refl _ _).drew) (hR.below (Below.refl w.heap.size w).drew (Nat.le_refl _)) h.drew.lt (h.drew.at_ 4) (Rd.own h.drew.own) i16 i4 iok
    by_cases hE : lnE z.lns ws = 0
    · refine (pTake_more (by omega) hn ws.length c A (lnL ws) w h i16 (Lib.hid (H.mono fun e w' ⟨a, b⟩ => ⟨?_, b⟩))).mono fun e w' ⟨a, v', b, c⟩ => Or.inl ⟨hE, a, v', b, c⟩
      rcases a with ⟨_, a⟩ | ⟨a, _⟩
      · exact a
      · exact absurd hE a
    · refine (pTake_bad (by omega) ws.length c A (lnE z.lns ws) w h (Lib.hid (H.mono fun e w' ⟨a, b⟩ => ⟨?_, b⟩))).mono fun e w' ⟨a, b⟩ => Or.inr ⟨hE, a, b⟩
      rcases a with ⟨a, _⟩ | ⟨_, a⟩
      · exact absurd a hE
      · exact a
end Go.Proofs.YteinjdmkmfeniaaGreatDoor
namespace Go.Proofs.YteinjdmkmfeniaaGreatDoor
set_option linter.unusedVariables false
set_option linter.unusedSimpArgs false
open Go.ChangeShapes Go.WideShapes Go.ChangeAt Go.RowKit
theorem ta_yes (E : Int) (w : World) : (Instr.typeAssert (.iface 28 (.int .i64 E)) 20 28 true).run Tryz.prog w = .ok (.tuple #[.int .i64 E, .bool true]) w := by kernel_rfl
theorem ta_no (w : World) : (Instr.typeAssert .nilIface 20 28 true).run Tryz.prog w = .ok (.tuple #[.int .i64 0, .bool false]) w := by kernel_rfl
set_option maxRecDepth 100000 in
theorem catch_pan (p : Addr) (x E : Int) (older : List PanicEntry) (w : World) (hc : w.cell? p = some (.int .i64 x)) (hz : w.frozen? p = false) :
    CallsD Tryz.prog 36 #[.pointer (some p)] (.panicking ({ v := .iface 28 (.int .i64 E), recovered := false } :: older)) w fun e u' w' =>
      e = .returned (.tuple #[]) ∧ u' = .panicking ({ v := .iface 28 (.int .i64 E), recovered := true } :: older) ∧ w' = w.setCell p (.int .i64 E) := by
  refine callsD_of_wpS Tryz.func36 rfl fun c₀ cs hu => ?_
  apply wpS_seq
  apply wpS_region
  simp [wpOpsS, go_sem, recoverD, hu, Tryz.ntmps36, Exit.thenS, ta_yes]
  apply wpS_seq
  apply wpS_region
  simp [wpOpsS, go_sem, Exit.thenS]
  refine wpS_cond (t := true) (by simp [Act.eval, Array.replicate]) ?_
  simp only [if_true]
  apply wpS_region
  simp [wpOpsS, go_sem, hc, hz, bodyPostS, results, Tryz.results36]
set_option maxRecDepth 100000 in
theorem catch_ret (p : Addr) (w : World) :
    CallsD Tryz.prog 36 #[.pointer (some p)] .returning w fun e u' w' => e = .returned (.tuple #[]) ∧ u' = .returning ∧ w' = w := by
  refine callsD_of_wpS Tryz.func36 rfl fun c₀ cs hu => ?_
  apply wpS_seq
  apply wpS_region
  simp [wpOpsS, go_sem, recoverD, hu, Tryz.ntmps36, Exit.thenS, ta_no]
  apply wpS_seq
  apply wpS_region
  simp [wpOpsS, go_sem, Exit.thenS]
  refine wpS_cond (t := false) (by simp [Act.eval, Array.replicate]) ?_
  simp only [Bool.false_eq_true, if_false]
  refine wpS_of_wp (wp_skip ?_)
  cases c₀
  simp_all [bodyPostS, results, Tryz.results36]
theorem news1a (w : World) (x : Obj) (t : TypeId) (u : Value) : ∀ j y, [u][j]? = some y → ((w.alloc x).alloc (.cells #[u] t)).cell? ((⟨w.heap.size + 1, 0, none⟩ : Addr).add j) = some y := by
  have h := news1 (w.alloc x) t u
  rw [show (w.alloc x).heap.size = w.heap.size + 1 by simp] at h
  exact h
theorem RdH.other {B : Nat} {w0 w w1 : World} {M : Nat} {z : Src} {k : Nat} {ln : Int} {v : Value} (h : RdH B w0 w M z k ln v) {x : Obj} {u : Value} {n : Nat} {xs : List Value} (hu : w.ownsRow B 9 1 u n xs) (hg : (w.alloc x).grownBy w1 u.ownBlock) : RdH B w0 w1 M z k ln v := by
  have keep : ∀ k, k < w.heap.size → u.ownBlock ≠ some k → w1.heap[k]? = w.heap[k]? := fun k hk hne => app_keep hg hk hne
  have uz : u.ownBlock ≠ some M := own_kind hu h.row (fun c fz e => by injection e with _ e2; exact absurd e2 (by decide))
  have hs := hg.size
  have hs2 : (w.alloc x).heap.size = w.heap.size + 1 := by simp
  have hs3 := h.sz
  refine ⟨(keep M h.lt uz).trans h.row, own_stay h.own (fun g hg2 => ?_), h.bM, bel_append h.bel h.sz hu hg, by omega⟩
  obtain ⟨c2, f2, h2⟩ := own_some h.own hg2
  exact keep g (Array.getElem?_eq_some_iff.1 h2).1 (own_kind hu h2 (fun c fz e => by injection e with _ e2; exact absurd e2 (by decide)))
theorem RdH.far {B : Nat} {w0 w : World} {M : Nat} {z : Src} {n : Nat} {ln : Int} {v : Value} (h : RdH B w0 w M z n ln v) {k : Nat} (hk : M ≠ k) (hv : v.ownBlock ≠ some k) (hB : B ≤ k) (j : Nat) (a : Value) : RdH B w0 (w.setCell ⟨k, j, none⟩ a) M z n ln v := by
  refine ⟨row_other1 hk h.row j a, own_stay h.own (fun g hg => row_other1 (fun e => hv (by rw [hg, e])) rfl j a), h.bM, h.bel.setCell (by exact hB) _, ?_⟩
  have e := h.sz
  simpa [World.setCell] using e
structure RlH (w1 wr : World) (T : List Tok) (k n : Nat) (ws : List (List UInt8)) (z : Src) (ln : Int) (v u : Value) : Prop where
  rd : RdH w1.heap.size w1 wr w1.heap.size z n ln v
  own : wr.ownsRow w1.heap.size 9 1 u ws.length (ws.map strV)
  err : wr.heap[w1.heap.size + 1]? = some (.cells #[.int .i64 0] 28 (0, 0))
  prs : prsT (T.drop k) z n ws = prsT T src0 0 []
  lst : lastW (T.take k) = !ws.isEmpty
  len : ∀ x ∈ ws, x.length ≤ 100000
  may : RdS n z
  nk : n ≤ k
  wk : ws.length ≤ k
theorem rd_new (w : World) : RdH w.heap.size w (w.alloc (.cells (rdC src0 (.slice none 0 0) 0 0) 51)) w.heap.size src0 0 0 (.slice none 0 0) :=
  ⟨heap_alloc_new w _, World.ownsRow_nil _ _ _ _, Nat.le_refl _, (Below.refl _ w).alloc (Nat.le_refl _) _, by simp⟩
theorem rdC0 : rdC src0 (.slice none 0 0) 0 0 = #[.string ⟨#[]⟩, .int .i64 0, .bool false, .string ⟨#[]⟩, .slice none 0 0, .int .i64 0, .int .i64 0] := by
  unfold rdC src0
  rw [bs_empty]
  rfl
set_option maxHeartbeats 6400000 in
set_option maxRecDepth 100000 in
theorem pRead15_any (T : List Tok) (hgood : goodT T) (hlen : ∀ t ∈ T, t.1.length ≤ 100000) (hTl : T.length ≤ 1024) (A : Option Addr) (c : Nat) (w1 : World) (hK : KX w1) (hR : Rd w1 A (tokVs T)) :
    Calls Tryz.prog 16 #[.pointer (some ⟨w1.heap.size, 0, none⟩), .slice A T.length c] (w1.alloc (.cells (rdC src0 (.slice none 0 0) 0 0) 51)) fun e w' =>
      ((prsT T src0 0 []).2.2 = 0 ∧ e = .returned (.int .i64 0) ∧ ∃ v n, RdH w1.heap.size w1 w' w1.heap.size (prsT T src0 0 []).1 n 0 v) ∨
      ((prsT T src0 0 []).2.2 ≠ 0 ∧ e = .returned (.int .i64 (prsT T src0 0 []).2.2) ∧ Below w1.heap.size w1 w' ∧ w'.cell? ⟨w1.heap.size, 6, none⟩ = some (.int .i64 (prsT T src0 0 []).2.1)) := by
  have hmf : ∀ (fn : Fn) (first cap : Array Value) (w : World), (Instr.makeFunc fn first cap).run Tryz.prog w = .ok (.func fn first cap) w := fun _ _ _ _ => rfl
  have N0 := Lib.hid (rd_new w1)
  have hs0 : (w1.alloc (.cells (rdC src0 (.slice none 0 0) 0 0) 51)).heap.size = w1.heap.size + 1 := by simp
  obtain ⟨W, hW⟩ : ∃ W, W = w1.alloc (.cells (rdC src0 (.slice none 0 0) 0 0) 51) := ⟨_, rfl⟩
  rw [← hW] at N0 hs0 ⊢
  replace hW := Lib.hid hW
  replace hs0 := Lib.hid hs0
  go_enter_defers Tryz.func16, Tryz.ntmps16
  go_wp2
  go_loopw [5, 11] (fun lv i wr => ∃ (k n : Nat) (ws : List (List UInt8)) (z : Src) (ln : Int) (v : Value), k ≤ T.length ∧ i = .int .i64 (k : Int) ∧ Hid (RlH w1 wr T k n ws z ln v lv)) (fun _ i _ => T.length - (intOf i).toNat)
  case atStart =>
    refine ⟨0, 0, [], src0, 0, .slice none 0 0, by omega, rfl, Lib.hid ⟨N0.out.alloc _, World.ownsRow_nil _ _ _ _, ?_, rfl, rfl, fun x hx => (by cases hx), ?_, Nat.le_refl _, Nat.le_refl _⟩⟩
    · have := heap_alloc_new W (.cells #[.int .i64 0] 28)
      rwa [hs0.out] at this
    · exact ⟨rfl, fun _ => rfl, fun h => by omega, fun h => by omega⟩
  case round =>
    obtain ⟨k, n, ws, z, ln, v, hk, rfl, H⟩ := hrel
    have HB := H.out.rd.bel
    by_cases hlt : k < T.length
    · have hgk := hgood k hlt
      have hdr : T.drop k = T[k] :: T.drop (k + 1) := List.drop_eq_getElem_cons hlt
      obtain ⟨tb, tof, rfl, htb, htc⟩ := hR.tok hlt
      have htk : wr.cell? ⟨tb, tof + k * 2, none⟩ = some (.string (bs T[k].1)) := (World.cell?_of_block (a := ⟨tb, tof + k * 2, none⟩) (HB.block tb htb)).trans (htc k hlt).1
      have htl : wr.cell? ⟨tb, tof + k * 2 + 1, none⟩ = some (.int .i64 T[k].2) := (World.cell?_of_block (a := ⟨tb, tof + k * 2 + 1, none⟩) (HB.block tb htb)).trans (htc k hlt).2
      have htlen := hlen T[k] (by simp)
      have hlast : lastW (T.take (k + 1)) = (T[k].1 != [10]) := by rw [List.take_succ_eq_append_getElem hlt]; exact lastW_snoc _ _
      have hprs := H.out.prs
      rw [hdr] at hprs
      clear htc hdr HB
      generalize hTk : T[k] = tk at *
      obtain ⟨t, tn⟩ := tk
      simp only at htk htl htlen hlast hgk
      replace hTk := Lib.hid hTk
      have lt := bs_list t
      have hkT : (k : Int) < (T.length : Int) := by omega
      have hk0 : (0 : Int) ≤ (k : Int) := by omega
      obtain ⟨TOK, hTOK⟩ : ∃ o : Obj, o = .cells #[.string (bs t), .int .i64 tn] 59 := ⟨_, rfl⟩
      by_cases h10 : t = [10]
      · have e1 : (t == [10]) = true := by rw [h10]; rfl
        have hne : ws ≠ [] := by
          intro e
          have := hgk h10
          rw [H.out.lst, e] at this
          cases this
        have hl0 : 0 < ws.length := List.length_pos_iff.2 hne
        rw [h10] at hprs
        have hlast2 : Hid (lastW (T.take (k + 1)) = false) := Lib.hid (by rw [hlast, h10]; rfl)
        have HA := H.out.rd.alloc TOK
        have OA := H.out.own.alloc TOK
        have EA : (wr.alloc TOK).heap[w1.heap.size + 1]? = some (.cells #[.int .i64 0] 28 (0, 0)) := row_alloc H.out.err _
        have c6 : (wr.alloc TOK).cell? ⟨w1.heap.size, 6, none⟩ = some (.int .i64 ln) := HA.at_ 6
        have f6 : (wr.alloc TOK).frozen? ⟨w1.heap.size, 6, none⟩ = false := HA.fz 6
        obtain ⟨WA, wc, wg, rfl, hwl, hwg, -⟩ := own_form OA
        obtain ⟨rfl, hg1, hg2⟩ := hwg hl0
        have hwc : ws.length ≤ wc := by
          rcases OA.2 with ⟨_, h0⟩ | ⟨g, cap, cur, hv, _, _, hnc, _⟩
          · omega
          · injection hv with _ _ h3; omega
        have uM : Value.ownBlock (.slice (some ⟨wg, 0, none⟩) ws.length wc) ≠ some w1.heap.size := own_kind OA HA.row (fun c fz e => by injection e with _ e2; exact absurd e2 (by decide))
        have hS := HA.set 6 (.int .i64 tn) z n tn (by rfl) rfl
        have OS : ((wr.alloc TOK).setCell ⟨w1.heap.size, 6, none⟩ (.int .i64 tn)).ownsRow w1.heap.size 9 1 (.slice (some ⟨wg, 0, none⟩) ws.length wc) ws.length (ws.map strV) := own_stay OA (fun g hg => row_other1 (fun e => uM (by rw [hg, e])) rfl 6 _)
        have ES := row_other1 (show w1.heap.size + 1 ≠ w1.heap.size by omega) EA 6 (.int .i64 tn)
        have HT := Lib.hid (pTake15_any (M := w1.heap.size) (v := v) (ln := tn) ws hl0 H.out.len _ wc hwc _ (kx_keep (Lib.hid hK) hS.bel) (Rd.own OS) (fun b o e => by
          have e2 : (⟨wg, 0, none⟩ : Addr) = ⟨b, o, none⟩ := Option.some.inj e
          injection e2 with e3
          intro e4
          exact uM (by rw [e3, e4]; rfl)) hS H.out.may (by have := H.out.nk; omega))
        have hnk := H.out.nk
        have hmay := H.out.may
        replace hS := Lib.hid hS
        replace OS := Lib.hid OS
        replace ES := Lib.hid ES
        replace h10 := Lib.hid h10
        replace hgk := Lib.hid hgk
        replace hlast := Lib.hid hlast
        replace hmay := Lib.hid hmay
        replace hprs := Lib.hid hprs
        replace uM := Lib.hid uM
        clear HA OA EA H hwl hwg
        subst hTOK
        go_wp2_with fail
        refine HT.out.mono ?_
        rintro e w5 (⟨hE0, rfl, v', h5, hk5⟩ | ⟨hE0, rfl, hb5, hc5, hk5⟩)
        · have hlt1 : w1.heap.size + 1 < ((wr.alloc (.cells #[.string (bs t), .int .i64 tn] 59)).setCell ⟨w1.heap.size, 6, none⟩ (.int .i64 tn)).heap.size := (Array.getElem?_eq_some_iff.1 ES.out).1
          have E5 : w5.heap[w1.heap.size + 1]? = some (.cells #[.int .i64 0] 28 (0, 0)) := (hk5 _ hlt1 (by omega) (own_kind hS.out.own ES.out (fun c fz e => by injection e with _ e2; exact absurd e2 (by decide)))).trans ES.out
          have O5 : w5.ownsRow w1.heap.size 9 1 (.slice (some ⟨wg, 0, none⟩) ws.length wc) ws.length (ws.map strV) := own_stay OS.out (fun g hg => by
            obtain ⟨cx, fx, hx⟩ := own_some OS.out hg
            exact hk5 g (Array.getElem?_eq_some_iff.1 hx).1 (fun e => uM.out (by rw [hg, e])) (own_kind hS.out.own hx (fun c fz e => by injection e with _ e2; exact absurd e2 (by decide))))
          have R5 : Hid (RlH w1 w5 T (k + 1) (n + 1) [] (stS z n ws) tn v' (.slice (some ⟨wg, 0, none⟩) 0 wc)) := Lib.hid ⟨h5, own_cut O5, E5, by rw [← hprs.out]; exact (prsT_line hE0).symm, by rw [hlast2.out]; rfl, fun x hx => (by cases hx), st_in hmay.out hE0, by omega, by simp⟩
          clear h5 hk5 E5 O5 HT hlt1
          replace hE0 := Lib.hid hE0
          have hz : (0 : Int) ≤ (wc : Int) := by omega
          go_wp2
          go_roundw
          case rel => exact ⟨k + 1, n + 1, [], stS z n ws, tn, v', by omega, by go_num, R5⟩
          case measure => simp [intOf]; omega
        · have hlt1 : w1.heap.size + 1 < ((wr.alloc (.cells #[.string (bs t), .int .i64 tn] 59)).setCell ⟨w1.heap.size, 6, none⟩ (.int .i64 tn)).heap.size := (Array.getElem?_eq_some_iff.1 ES.out).1
          have E5 : w5.heap[w1.heap.size + 1]? = some (.cells #[.int .i64 0] 28 (0, 0)) := (hk5 _ hlt1 (by omega) (own_kind hS.out.own ES.out (fun c fz e => by injection e with _ e2; exact absurd e2 (by decide)))).trans ES.out
          rw [← hs0.out] at E5
          have hp : prsT T src0 0 [] = (src0, tn, stE z n ws) := by rw [← hprs.out]; exact prsT_err hE0
          have hB6 : Below w1.heap.size w1 (w5.setCell ⟨W.heap.size, 0, none⟩ (.int .i64 (stE z n ws))) := hb5.setCell (by show w1.heap.size ≤ W.heap.size; rw [hs0.out]; omega) _
          have hC6 : (w5.setCell ⟨W.heap.size, 0, none⟩ (.int .i64 (stE z n ws))).cell? ⟨w1.heap.size, 6, none⟩ = some (.int .i64 tn) := cell_far1 (by rw [hs0.out]; omega) hc5
          have r5 : (w5.setCell ⟨W.heap.size, 0, none⟩ (.int .i64 (stE z n ws))).cell? ⟨W.heap.size, 0, none⟩ = some (.int .i64 (stE z n ws)) := by rw [Lib.cell_of_heap (row_set1 E5 0 _)]; rfl
          clear HT hk5 hlt1 hprs
          replace hp := Lib.hid hp
          generalize stE z n ws = EE at *
          refine leaves_cons (f := 36) (args := #[.pointer (some ⟨W.heap.size, 0, none⟩)]) (by simp) (by simp [go_sem]) ?_
          refine (catch_pan ⟨W.heap.size, 0, none⟩ 0 EE [] w5 (by rw [Lib.cell_of_heap E5]; rfl) (Lib.frozen_of_heap E5 0)).mono ?_
          rintro e u' w'' ⟨rfl, rfl, rfl⟩
          simp only [Leaves, settle, List.dropWhile_nil]
          exact ⟨.int .i64 EE, by simp [results, Tryz.results16, go_sem, r5], by rw [hp.out]; exact Or.inr ⟨hE0, rfl, hB6, hC6⟩⟩
      · have e1 : (t == [10]) = false := beq_false_of_ne h10
        have hlast2 : Hid (lastW (T.take (k + 1)) = true) := Lib.hid (by rw [hlast]; simpa using h10)
        have hpr2 : Hid (prsT (T.drop (k + 1)) z n (ws ++ [t]) = prsT T src0 0 []) := Lib.hid (by rw [← prsT_word h10]; exact hprs)
        have hwl2 : Hid (∀ x ∈ ws ++ [t], x.length ≤ 100000) := Lib.hid (fun x hx => by
          rw [List.mem_append, List.mem_singleton] at hx
          rcases hx with hx | rfl
          · exact H.out.len x hx
          · exact htlen)
        have HA := H.out.rd.alloc TOK
        have OA := H.out.own.alloc TOK
        have EA : (wr.alloc TOK).heap[w1.heap.size + 1]? = some (.cells #[.int .i64 0] 28 (0, 0)) := row_alloc H.out.err _
        obtain ⟨i1, hi, hz0, hz1, hz2⟩ := info_parts infoStr
        have hsr := H.out.rd.sz
        have hnk := H.out.nk
        have hwk := H.out.wk
        have hmay := H.out.may
        obtain ⟨WA, wc, wg, rfl, -⟩ := own_form OA
        replace h10 := Lib.hid h10
        replace hgk := Lib.hid hgk
        replace hlast := Lib.hid hlast
        replace hprs := Lib.hid hprs
        replace hmay := Lib.hid hmay
        replace HA := Lib.hid HA
        replace EA := Lib.hid EA
        clear H
        subst hTOK
        go_wp2_with (first
          | (at_builtin
             refine wpList_append_lies _ rfl (.tmp 18) (.tmp 21) 45 rfl w1.heap.size 9 i1 (.string ⟨#[]⟩) 1 16 Tryz.underlying45 hi hz0 hz1 hz2 rfl (by decide) _ _ _ rfl (OA.alloc _) ⟨wr.heap.size + 1, 0, none⟩ 1 1 [.string (bs t)] rfl rfl (news1a _ _ _ _) (one1 rfl) (by decide) (by unfold maxLen; omega) (by omega) (by simp; omega) _ rfl ?_
             intro g cap w3 hown1 hgrow hat hlt1)
          | fail)
        have hS3 := HA.out.other OA hgrow
        have uE := own_kind OA EA.out (fun c fz e => by injection e with _ e2; exact absurd e2 (by decide))
        have E3 := (app_keep hgrow (Array.getElem?_eq_some_iff.1 EA.out).1 uE).trans EA.out
        have hw3 : w3.ownsRow w1.heap.size 9 1 (.slice (some ⟨g, 0, none⟩) (ws.length + 1) cap) (ws ++ [t]).length ((ws ++ [t]).map strV) := by
          rw [List.map_append, List.length_append]; exact hown1
        have R5 : Hid (RlH w1 w3 T (k + 1) n (ws ++ [t]) z ln v (.slice (some ⟨g, 0, none⟩) (ws.length + 1) cap)) := Lib.hid ⟨hS3, hw3, E3, hpr2.out, by rw [hlast2.out]; simp, hwl2.out, hmay.out, by omega, by simp; omega⟩
        clear hown1 hgrow hat hlt1 OA hS3 uE E3 hw3 HA EA hpr2 hlast2 hwl2
        go_wp2
        go_roundw
        case rel => exact ⟨k + 1, n, ws ++ [t], z, ln, v, by omega, by go_num, R5⟩
        case measure => simp [intOf]; omega
    · obtain rfl : k = T.length := by omega
      have hprs := H.out.prs
      rw [List.drop_length] at hprs
      have HA := H.out.rd
      have EA := H.out.err
      rw [← hs0.out] at EA
      have c6 : wr.cell? ⟨w1.heap.size, 6, none⟩ = some (.int .i64 ln) := HA.at_ 6
      have f6 := HA.fz 6
      have H6 := HA.set 6 (.int .i64 0) z n 0 (by rfl) rfl
      have c5 : (wr.setCell ⟨w1.heap.size, 6, none⟩ (.int .i64 0)).cell? ⟨w1.heap.size, 5, none⟩ = some (.int .i64 (n : Int)) := H6.at_ 5
      have E6 : (wr.setCell ⟨w1.heap.size, 6, none⟩ (.int .i64 0)).heap[W.heap.size]? = some (.cells #[.int .i64 0] 28 (0, 0)) := row_other1 (by rw [hs0.out]; omega) EA 6 _
      have hkT : ¬ ((T.length : Int) < (T.length : Int)) := by omega
      have hC6 : (wr.setCell ⟨w1.heap.size, 6, none⟩ (.int .i64 0)).cell? ⟨w1.heap.size, 6, none⟩ = some (.int .i64 0) := H6.at_ 6
      have hmay := H.out.may
      replace H6 := Lib.hid H6
      replace E6 := Lib.hid E6
      replace hmay := Lib.hid hmay
      clear H HA EA HB
      by_cases hn2 : n < 2
      · have q2 : ((n : Int) < 2) := by omega
        have hp : prsT T src0 0 [] = (src0, 0, 2) := by rw [← hprs]; exact if_pos hn2
        replace hprs := Lib.hid hprs
        replace hp := Lib.hid hp
        go_wp2
        refine leaves_cons (f := 36) (args := #[.pointer (some ⟨W.heap.size, 0, none⟩)]) (by simp) (by simp [go_sem]) ?_
        refine (catch_pan ⟨W.heap.size, 0, none⟩ 0 2 [] _ (by rw [Lib.cell_of_heap E6.out]; rfl) (Lib.frozen_of_heap E6.out 0)).mono ?_
        rintro e u' w'' ⟨rfl, rfl, rfl⟩
        have r5 : (((wr.setCell ⟨w1.heap.size, 6, none⟩ (.int .i64 0))).setCell ⟨W.heap.size, 0, none⟩ (.int .i64 2)).cell? ⟨W.heap.size, 0, none⟩ = some (.int .i64 2) := by rw [Lib.cell_of_heap (row_set1 E6.out 0 _)]; rfl
        simp only [Leaves, settle, List.dropWhile_nil]
        exact ⟨.int .i64 2, by simp [results, Tryz.results16, go_sem, r5], by rw [hp.out]; exact Or.inr ⟨by decide, rfl, H6.out.bel.setCell (by show w1.heap.size ≤ W.heap.size; rw [hs0.out]; omega) _, cell_far1 (by rw [hs0.out]; omega) hC6⟩⟩
      · have q2 : ¬ ((n : Int) < 2) := by omega
        have hp : prsT T src0 0 [] = (z, 0, 0) := by rw [← hprs]; exact if_neg hn2
        replace hprs := Lib.hid hprs
        replace hp := Lib.hid hp
        have e0 : (wr.setCell ⟨w1.heap.size, 6, none⟩ (.int .i64 0)).cell? ⟨W.heap.size, 0, none⟩ = some (.int .i64 0) := by rw [Lib.cell_of_heap E6.out]; rfl
        have e1 : (wr.setCell ⟨w1.heap.size, 6, none⟩ (.int .i64 0)).frozen? ⟨W.heap.size, 0, none⟩ = false := Lib.frozen_of_heap E6.out 0
        have H7 := Lib.hid (H6.out.far (k := W.heap.size) (by rw [hs0.out]; omega) (own_kind H6.out.own E6.out (fun c fz e => by injection e with _ e2; exact absurd e2 (by decide))) (by rw [hs0.out]; omega) 0 (.int .i64 0))
        have r5 : (((wr.setCell ⟨w1.heap.size, 6, none⟩ (.int .i64 0))).setCell ⟨W.heap.size, 0, none⟩ (.int .i64 0)).cell? ⟨W.heap.size, 0, none⟩ = some (.int .i64 0) := by rw [Lib.cell_of_heap (row_set1 E6.out 0 _)]; rfl
        replace r5 := Lib.hid r5
        go_wp2
        refine leaves_cons (f := 36) (args := #[.pointer (some ⟨W.heap.size, 0, none⟩)]) (by simp) (by simp [go_sem]) ?_
        refine (catch_ret ⟨W.heap.size, 0, none⟩ _).mono ?_
        rintro e u' w'' ⟨rfl, rfl, rfl⟩
        have r6 := r5.out
        simp only [Leaves, settle, List.dropWhile_nil]
        exact ⟨.int .i64 0, by simp [results, Tryz.results16, go_sem, r6], by rw [hp.out]; exact Or.inl ⟨rfl, rfl, v, n, H7.out⟩⟩
theorem pRuParse_any (s : List UInt8) (hs : s.length ≤ 9223372036854775807) (w : World) (hK : KX w) : Calls Tryz.prog 8 #[.string (bs s)] w (RetSrc (prsR s).1 (prsR s).2.1 (prsR s).2.2 w) := by
  have HL := Lib.hid (pLex_any s)
  have Z0 := Lib.hid (heap_alloc_new w (.cells #[.string ⟨#[]⟩, .int .i64 0, .bool false, .string ⟨#[]⟩, .slice none 0 0] 26))
  have B0 := Lib.hid ((Below.refl _ w).alloc (Nat.le_refl _) (.cells #[.string ⟨#[]⟩, .int .i64 0, .bool false, .string ⟨#[]⟩, .slice none 0 0] 26))
  by_cases hE : lexE s = 0
  · obtain ⟨hgood, hlen, hTl⟩ := lex_b s hE
    have hP : prsR s = prsT (lexT s) src0 0 [] := if_neg (by rw [hE]; decide)
    rw [hE] at HL
    rw [hP]
    have HRd := fun A c w1 hK hR => pRead15_any (lexT s) hgood hlen hTl A c w1 hK hR
    rw [rdC0] at HRd
    replace HRd := Lib.hid HRd
    clear hgood hlen hTl hP hE
    generalize lexT s = T at *
    replace hK := Lib.hid hK
    have hk0 : (prsT T src0 0 []).2.2 = 0 → (prsT T src0 0 []).2.1 = 0 := fun h => (prsT_in T (z := src0) (n := 0) (w := []) ⟨rfl, fun _ => rfl, fun h => by omega, fun h => by omega⟩ h).2
    have hs0 : (prsT T src0 0 []).2.2 ≠ 0 → (prsT T src0 0 []).1 = src0 := fun h => prsT_no T h
    generalize prsT T src0 0 [] = R at *
    obtain ⟨z, rk, rE⟩ := R
    simp only at HRd hk0 hs0 ⊢
    replace hk0 := Lib.hid hk0
    replace hs0 := Lib.hid hs0
    go_enter Tryz.func8, Tryz.ntmps8
    refine wp_shut ?_
    go_wp2_with fail
    refine (HL.out _).mono ?_
    rintro e w1 ⟨tv, rfl, hown, hb1⟩
    have Z1 := Lib.hid (row_keep Z0.out hb1)
    have B1 := Lib.hid (B0.out.trans (hb1.mono B0.out.size))
    obtain ⟨TA, tc, tg, rfl, -⟩ := own_form hown
    have hsz1 : w.heap.size < w1.heap.size := by have := hb1.size; simp at this; omega
    have HR1 := Lib.hid (HRd.out TA tc w1 (kx_keep hK B1.out) (Rd.own hown))
    clear hown hb1 HRd HL
    go_wp2_with fail
    refine HR1.out.mono ?_
    rintro e w2 (⟨hE, rfl, v, n, h2⟩ | ⟨hE, rfl, hb2, hc6⟩)
    · have Z2 : w2.heap[w.heap.size]? = some (.cells #[.string ⟨#[]⟩, .int .i64 0, .bool false, .string ⟨#[]⟩, .slice none 0 0] 26 (0, 0)) := (h2.bel.block _ hsz1).trans Z1.out
      have B2 := Lib.hid (B1.out.trans (h2.bel.mono (Nat.le_of_lt hsz1)))
      obtain ⟨VA, vc, vg, rfl, -⟩ := own_form h2.own
      have vZ := own_kind h2.own Z2 (fun c fz e => by injection e with _ e2; exact absurd e2 (by decide))
      have m0 : w2.cell? ⟨w1.heap.size, 0, none⟩ = some (.string (bs z.nam)) := h2.at_ 0
      have m1 : w2.cell? ⟨w1.heap.size, 1, none⟩ = some (.int .i64 z.off) := h2.at_ 1
      have m2 : w2.cell? ⟨w1.heap.size, 2, none⟩ = some (.bool z.dst) := h2.at_ 2
      have m3 : w2.cell? ⟨w1.heap.size, 3, none⟩ = some (.string (bs z.abb)) := h2.at_ 3
      have m4 : w2.cell? ⟨w1.heap.size, 4, none⟩ = some (.slice VA z.lns.length vc) := h2.at_ 4
      have zr := setRow_heap w2 w.heap.size _ #[Value.string (bs z.nam), Value.int .i64 z.off, Value.bool z.dst, Value.string (bs z.abb), Value.slice VA z.lns.length vc] _ _ Z2
      have BR := Lib.hid (keepRow B2.out (Nat.le_refl _) #[Value.string (bs z.nam), Value.int .i64 z.off, Value.bool z.dst, Value.string (bs z.abb), Value.slice VA z.lns.length vc])
      have OR : Hid ((w2.setRow w.heap.size #[Value.string (bs z.nam), Value.int .i64 z.off, Value.bool z.dst, Value.string (bs z.abb), Value.slice VA z.lns.length vc]).ownsRow w1.heap.size 41 13 (.slice VA z.lns.length vc) z.lns.length (linVs z.lns)) := Lib.hid (own_stay h2.own (fun g hg => row_otherR (fun e => vZ (by rw [hg, e])) rfl _))
      replace h2 := Lib.hid h2
      replace vZ := Lib.hid vZ
      replace hE := Lib.hid hE
      clear HR1 B1 Z1
      go_wp2_with (first | (refine wpList_store_row (by rfl) 26 _ _ (by rfl) w.heap.size #[Value.string (bs z.nam), Value.int .i64 z.off, Value.bool z.dst, Value.string (bs z.abb), Value.slice VA z.lns.length vc] (by rfl) (by rfl) _ _ Z2 (by kernel_rfl) (by rfl) (by simp [Value.oneCell']) ?_; refine Hid.out ?_) | fail)
      refine Lib.hid ?_
      generalize w2.setRow w.heap.size #[Value.string (bs z.nam), Value.int .i64 z.off, Value.bool z.dst, Value.string (bs z.abb), Value.slice VA z.lns.length vc] = W at *
      have r0 : W.cell? ⟨w.heap.size, 0, none⟩ = some (.string (bs z.nam)) := by rw [Lib.cell_of_heap zr]; rfl
      have r1 : W.cell? ⟨w.heap.size, 1, none⟩ = some (.int .i64 z.off) := by rw [Lib.cell_of_heap zr]; rfl
      have r2 : W.cell? ⟨w.heap.size, 2, none⟩ = some (.bool z.dst) := by rw [Lib.cell_of_heap zr]; rfl
      have r3 : W.cell? ⟨w.heap.size, 3, none⟩ = some (.string (bs z.abb)) := by rw [Lib.cell_of_heap zr]; rfl
      have r4 : W.cell? ⟨w.heap.size, 4, none⟩ = some (.slice VA z.lns.length vc) := by rw [Lib.cell_of_heap zr]; rfl
      clear m0 m1 m2 m3 m4
      go_wp2
      refine shut_ret (v := .tuple #[.agg #[.string (bs z.nam), .int .i64 z.off, .bool z.dst, .string (bs z.abb), .slice VA z.lns.length vc], .int .i64 0, .int .i64 0]) (by simp [results, Tryz.results8, go_sem, r0, r1, r2, r3, r4]) rfl ?_
      rw [hE.out, hk0.out hE.out]
      exact ⟨VA, vc, rfl, Rd.own OR.out, BR.out⟩
    · have Z2 : w2.heap[w.heap.size]? = some (.cells #[.string ⟨#[]⟩, .int .i64 0, .bool false, .string ⟨#[]⟩, .slice none 0 0] 26 (0, 0)) := (hb2.block _ hsz1).trans Z1.out
      have B2 := Lib.hid (B1.out.trans (hb2.mono (Nat.le_of_lt hsz1)))
      have q : (rE != 0) = true := bne_iff_ne.2 hE
      replace hb2 := Lib.hid hb2
      replace hE := Lib.hid hE
      have z0 : w2.cell? ⟨w.heap.size, 0, none⟩ = some (.string ⟨#[]⟩) := by rw [Lib.cell_of_heap Z2]; rfl
      have z1 : w2.cell? ⟨w.heap.size, 1, none⟩ = some (.int .i64 0) := by rw [Lib.cell_of_heap Z2]; rfl
      have z2 : w2.cell? ⟨w.heap.size, 2, none⟩ = some (.bool false) := by rw [Lib.cell_of_heap Z2]; rfl
      have z3 : w2.cell? ⟨w.heap.size, 3, none⟩ = some (.string ⟨#[]⟩) := by rw [Lib.cell_of_heap Z2]; rfl
      have z4 : w2.cell? ⟨w.heap.size, 4, none⟩ = some (.slice none 0 0) := by rw [Lib.cell_of_heap Z2]; rfl
      have y0 : w2.frozen? ⟨w.heap.size, 0, none⟩ = false := Lib.frozen_of_heap Z2 0
      have y1 : w2.frozen? ⟨w.heap.size, 1, none⟩ = false := Lib.frozen_of_heap Z2 1
      have y2 : w2.frozen? ⟨w.heap.size, 2, none⟩ = false := Lib.frozen_of_heap Z2 2
      have y3 : w2.frozen? ⟨w.heap.size, 3, none⟩ = false := Lib.frozen_of_heap Z2 3
      have y4 : w2.frozen? ⟨w.heap.size, 4, none⟩ = false := Lib.frozen_of_heap Z2 4
      have hneM : ¬ (w.heap.size = w1.heap.size) := by omega
      have hneM2 : ¬ (w1.heap.size = w.heap.size) := by omega
      replace Z2 := Lib.hid Z2
      clear HR1 B1 Z1
      go_wp2_with fail
      go_region
      go_wp2
      refine shut_ret (v := .tuple #[.agg #[.string ⟨#[]⟩, .int .i64 0, .bool false, .string ⟨#[]⟩, .slice none 0 0], .int .i64 rk, .int .i64 rE]) (by simp [results, Tryz.results8, go_sem, z0, z1, z2, z3, z4]) rfl (src_bad rk rE (R := (z, rk, rE)) (by rw [hs0.out hE.out]) ?_)
      exact (((((B2.out.setCell (Nat.le_refl _) _).setCell (Nat.le_refl _) _).setCell (Nat.le_refl _) _).setCell (Nat.le_refl _) _).setCell (Nat.le_refl _) _).drew
  · have hP : prsR s = (src0, 0, lexE s) := if_pos hE
    rw [hP]
    have q : (lexE s != 0) = true := bne_iff_ne.2 hE
    clear hP
    generalize lexE s = E at *
    replace hE := Lib.hid hE
    go_enter Tryz.func8, Tryz.ntmps8
    refine wp_shut ?_
    go_wp2_with fail
    refine (HL.out _).mono ?_
    rintro e w1 ⟨tv, rfl, hown, hb1⟩
    have Z1 := row_keep Z0.out hb1
    have B1 := Lib.hid (B0.out.trans (hb1.mono B0.out.size))
    have zr := setRow_heap w1 w.heap.size _ #[Value.string ⟨#[]⟩, Value.int .i64 0, Value.bool false, Value.string ⟨#[]⟩, Value.slice none 0 0] _ _ Z1
    have BR := Lib.hid (keepRow B1.out (Nat.le_refl _) #[Value.string ⟨#[]⟩, Value.int .i64 0, Value.bool false, Value.string ⟨#[]⟩, Value.slice none 0 0])
    clear hown hb1
    go_wp2_with (first | (refine wpList_store_row (by rfl) 26 _ _ (by rfl) w.heap.size #[Value.string ⟨#[]⟩, Value.int .i64 0, Value.bool false, Value.string ⟨#[]⟩, Value.slice none 0 0] (by rfl) (by rfl) _ _ Z1 (by kernel_rfl) (by rfl) (by simp [Value.oneCell']) ?_; refine Hid.out ?_) | fail)
    refine Lib.hid ?_
    generalize w1.setRow w.heap.size #[Value.string ⟨#[]⟩, Value.int .i64 0, Value.bool false, Value.string ⟨#[]⟩, Value.slice none 0 0] = W at *
    have r0 : W.cell? ⟨w.heap.size, 0, none⟩ = some (.string ⟨#[]⟩) := by rw [Lib.cell_of_heap zr]; rfl
    have r1 : W.cell? ⟨w.heap.size, 1, none⟩ = some (.int .i64 0) := by rw [Lib.cell_of_heap zr]; rfl
    have r2 : W.cell? ⟨w.heap.size, 2, none⟩ = some (.bool false) := by rw [Lib.cell_of_heap zr]; rfl
    have r3 : W.cell? ⟨w.heap.size, 3, none⟩ = some (.string ⟨#[]⟩) := by rw [Lib.cell_of_heap zr]; rfl
    have r4 : W.cell? ⟨w.heap.size, 4, none⟩ = some (.slice none 0 0) := by rw [Lib.cell_of_heap zr]; rfl
    go_wp2
    refine shut_ret (v := .tuple #[.agg #[.string ⟨#[]⟩, .int .i64 0, .bool false, .string ⟨#[]⟩, .slice none 0 0], .int .i64 0, .int .i64 E]) (by simp [results, Tryz.results8, go_sem, r0, r1, r2, r3, r4]) rfl (src_bad 0 E rfl BR.out)
end Go.Proofs.YteinjdmkmfeniaaGreatDoor
namespace Go.Proofs.YteinjdmkmfeniaaGreatDoor
set_option linter.unusedVariables false
set_option linter.unusedSimpArgs false
open Go.ChangeShapes Go.WideShapes Go.ChangeAt Go.RowKit
theorem dec_nbN : ∀ k : Nat, Lib.decDigits k = nbN k := by
  intro k
  induction k using Nat.strongRecOn with
  | ind k ih =>
    rw [Lib.decDigits]
    by_cases h : k < 10
    · rw [dif_pos h, nbN_small h]
      unfold dgt
      congr 2
    · rw [dif_neg h, nbN_big h, ih (k / 10) (by omega)]
      congr 2
theorem itoa_nbI (n : Int) : Lib.itoa n = nbI n := by
  unfold Lib.itoa nbI
  by_cases h : n < 0
  · rw [if_pos h, if_pos h, dec_nbN, show n.natAbs = (-n).toNat by omega]
  · rw [if_neg h, if_neg h, dec_nbN]
theorem gP10 : Tryz.prog.globalNamed "internal/strconv.uint64pow10" = some 3 := by kernel_rfl
theorem pItoa_any (n : Int) (h0 : -9223372036854775808 ≤ n) (h1 : n ≤ 9223372036854775807) (w : World) (hK : KX w) : Calls Tryz.prog 27 #[.int .i64 n] w fun e w' => e = .returned (.string (bs (nbI n))) ∧ Below w.heap.size w w' := by
  have H := Tryz.strconv_Itoa n h0 h1 w (hK.p10 _ gP10)
  rw [itoa_nbI, mk_bs] at H
  refine H.mono ?_
  rintro e w' ⟨rfl, k, os, rfl⟩
  exact ⟨rfl, Lib.below_grow _ w (Nat.le_refl _) k os⟩
theorem nbI_pair {n : Int} (h0 : 0 ≤ n) (h1 : n ≤ 99) : nbI (100 + n) = 49 :: twoL n := by
  rw [nbI_big (by omega), show (100 + n) / 10 = 10 + n / 10 by omega, nbI_big (by omega), nbI_small (by omega) (by omega)]
  unfold twoL
  rw [show (10 + n / 10) / 10 = 1 by omega, show (10 + n / 10) % 10 = n / 10 % 10 by omega, show (100 + n) % 10 = n % 10 by omega]
  rfl
set_option maxHeartbeats 1600000 in
set_option maxRecDepth 100000 in
theorem pPair15_any (n : Int) (h0 : 0 ≤ n) (h1 : n ≤ 99) (w : World) (hK : KX w) : Calls Tryz.prog 71 #[.int .i64 n] w fun e w' => e = .returned (.string (bs (twoL n))) ∧ Below w.heap.size w w' := by
  have X := pItoa_any (100 + n) (by omega) (by omega)
  rw [nbI_pair h0 h1] at X
  have H := Lib.hid X
  have hw : IntKind.i64.wrap (100 + n) = 100 + n := wrap_small _ (by omega) (by omega)
  have hs := fun W => slice_from (49 :: twoL n) 1 (by simp) (A := 1) rfl W
  have E : Hid ((49 :: twoL n).drop 1 = twoL n) := Lib.hid rfl
  generalize (49 :: twoL n).drop 1 = D at *
  generalize 49 :: twoL n = S at *
  clear X h0 h1
  replace hK := Lib.hid hK
  have hM := hK
  go_enter Tryz.func71, Tryz.ntmps71
  go_wp2_with fail
  
  refine (H.out _ (by first | exact kx_keep hM (Below.refl w.heap.size w) | exact kx_keep hM ((Below.refl w.heap.size w).alloc (Nat.le_refl _) _) | exact kx_keep hM (((Below.refl w.heap.size w).alloc (Nat.le_refl _) _).alloc (by simp <;> omega) _) | exact kx_keep hM ((((Below.refl w.heap.size w).alloc (Nat.le_refl _) _).alloc (by simp <;> omega) _).alloc (by simp <;> omega) _))).mono ?_
  rintro e V1 ⟨rfl, hb1⟩
  have B1 : Hid (Below w.heap.size w V1) := by first | exact Lib.hid ((Below.refl w.heap.size w).trans (hb1.mono (by first | assumption | (simp <;> omega) | (simp; done)))) | exact Lib.hid (((Below.refl w.heap.size w).alloc (Nat.le_refl _) _).trans (hb1.mono (by first | assumption | (simp <;> omega) | (simp; done)))) | exact Lib.hid ((((Below.refl w.heap.size w).alloc (Nat.le_refl _) _).alloc (by simp <;> omega) _).trans (hb1.mono (by first | assumption | (simp <;> omega) | (simp; done)))) | exact Lib.hid (((((Below.refl w.heap.size w).alloc (Nat.le_refl _) _).alloc (by simp <;> omega) _).alloc (by simp <;> omega) _).trans (hb1.mono (by first | assumption | (simp <;> omega) | (simp; done))))
  clear hb1
  go_simp
  go_wp2
  go_ret
  exact ⟨by rw [E.out]; try rfl, B1.out⟩
def clkL (n : Int) : List UInt8 := twoL (n / 3600) ++ [58] ++ twoL (n / 60 % 60) ++ [58] ++ twoL (n % 60)
set_option maxHeartbeats 1600000 in
set_option maxRecDepth 100000 in
theorem pClockWord_any (n : Int) (h0 : 0 ≤ n) (h1 : n ≤ 86400) (w : World) (hK : KX w) : Calls Tryz.prog 53 #[.int .i64 n] w fun e w' => e = .returned (.string (bs (clkL n))) ∧ Below w.heap.size w w' := by
  have e1 : n.tdiv 3600 = n / 3600 := Int.tdiv_eq_ediv_of_nonneg h0
  have e2 : n.tdiv 60 = n / 60 := Int.tdiv_eq_ediv_of_nonneg h0
  have e3 : (n / 60).tmod 60 = n / 60 % 60 := Int.tmod_eq_emod_of_nonneg (by omega)
  have e4 : n.tmod 60 = n % 60 := Int.tmod_eq_emod_of_nonneg h0
  have X1 := pPair15_any (n / 3600) (by omega) (by omega)
  have X2 := pPair15_any (n / 60 % 60) (by omega) (by omega)
  have X3 := pPair15_any (n % 60) (by omega) (by omega)
  have E : Hid (clkL n = twoL (n / 3600) ++ [58] ++ twoL (n / 60 % 60) ++ [58] ++ twoL (n % 60)) := Lib.hid rfl
  have H1 := Lib.hid X1
  have H2 := Lib.hid X2
  have H3 := Lib.hid X3
  clear X1 X2 X3
  have w1 : IntKind.i64.wrap (n / 3600) = n / 3600 := wrap_small _ (by omega) (by omega)
  have w2 : IntKind.i64.wrap (n / 60) = n / 60 := wrap_small _ (by omega) (by omega)
  have w3 : IntKind.i64.wrap (n / 60 % 60) = n / 60 % 60 := wrap_small _ (by omega) (by omega)
  have w4 : IntKind.i64.wrap (n % 60) = n % 60 := wrap_small _ (by omega) (by omega)
  generalize hi : n / 60 % 60 = i at *
  generalize hh : n / 3600 = h at *
  generalize hs : n % 60 = s at *
  generalize n / 60 = m at *
  replace hi := Lib.hid hi
  replace hh := Lib.hid hh
  replace hs := Lib.hid hs
  have z0 : (bs (twoL h)).size = 2 := by rw [bs_size]; rfl
  have a1 : bs (twoL h) ++ (⟨#[58]⟩ : ByteArray) = bs (twoL h ++ [58]) := by rw [lit_bs15, append_bs]
  have s1 : (bs (twoL h ++ [58])).size = 3 := by rw [bs_size]; rfl
  have z2 : (bs (twoL i)).size = 2 := by rw [bs_size]; rfl
  have a3 : bs (twoL h ++ [58]) ++ bs (twoL i) = bs (twoL h ++ [58] ++ twoL i) := by rw [append_bs]
  have s3 : (bs (twoL h ++ [58] ++ twoL i)).size = 5 := by rw [bs_size]; rfl
  have a4 : bs (twoL h ++ [58] ++ twoL i) ++ (⟨#[58]⟩ : ByteArray) = bs (twoL h ++ [58] ++ twoL i ++ [58]) := by rw [lit_bs15, append_bs]
  have s4 : (bs (twoL h ++ [58] ++ twoL i ++ [58])).size = 6 := by rw [bs_size]; rfl
  have z5 : (bs (twoL s)).size = 2 := by rw [bs_size]; rfl
  have a6 : bs (twoL h ++ [58] ++ twoL i ++ [58]) ++ bs (twoL s) = bs (twoL h ++ [58] ++ twoL i ++ [58] ++ twoL s) := by rw [append_bs]
  have s6 : (bs (twoL h ++ [58] ++ twoL i ++ [58] ++ twoL s)).size = 8 := by rw [bs_size]; rfl
  generalize twoL h ++ [58] ++ twoL i ++ [58] ++ twoL s = S4 at *
  generalize twoL h ++ [58] ++ twoL i ++ [58] = S3 at *
  generalize twoL h ++ [58] ++ twoL i = S2 at *
  generalize twoL h ++ [58] = S1 at *
  generalize twoL h = T0 at *
  generalize twoL i = T2 at *
  generalize twoL s = T4 at *
  clear h0 h1
  replace hK := Lib.hid hK
  have hM := hK
  go_enter Tryz.func53, Tryz.ntmps53
  go_wp2_with fail
  
  refine (H1.out _ (by first | exact kx_keep hM (Below.refl w.heap.size w) | exact kx_keep hM ((Below.refl w.heap.size w).alloc (Nat.le_refl _) _) | exact kx_keep hM (((Below.refl w.heap.size w).alloc (Nat.le_refl _) _).alloc (by simp <;> omega) _) | exact kx_keep hM ((((Below.refl w.heap.size w).alloc (Nat.le_refl _) _).alloc (by simp <;> omega) _).alloc (by simp <;> omega) _))).mono ?_
  rintro e V1 ⟨rfl, hb1⟩
  have B1 : Hid (Below w.heap.size w V1) := by first | exact Lib.hid ((Below.refl w.heap.size w).trans (hb1.mono (by first | assumption | (simp <;> omega) | (simp; done)))) | exact Lib.hid (((Below.refl w.heap.size w).alloc (Nat.le_refl _) _).trans (hb1.mono (by first | assumption | (simp <;> omega) | (simp; done)))) | exact Lib.hid ((((Below.refl w.heap.size w).alloc (Nat.le_refl _) _).alloc (by simp <;> omega) _).trans (hb1.mono (by first | assumption | (simp <;> omega) | (simp; done)))) | exact Lib.hid (((((Below.refl w.heap.size w).alloc (Nat.le_refl _) _).alloc (by simp <;> omega) _).alloc (by simp <;> omega) _).trans (hb1.mono (by first | assumption | (simp <;> omega) | (simp; done))))
  clear hb1
  go_simp
  go_wp2_with fail
  refine (H2.out _ (by first | exact kx_keep hM (B1.out) | exact kx_keep hM ((B1.out).alloc (B1.out.size) _) | exact kx_keep hM (((B1.out).alloc (B1.out.size) _).alloc (by have := B1.out.size; simp <;> omega) _) | exact kx_keep hM ((((B1.out).alloc (B1.out.size) _).alloc (by have := B1.out.size; simp <;> omega) _).alloc (by have := B1.out.size; simp <;> omega) _))).mono ?_
  rintro e V2 ⟨rfl, hb2⟩
  have B2 : Hid (Below w.heap.size w V2) := by first | exact Lib.hid ((B1.out).trans (hb2.mono (by have := B1.out.size; first | assumption | (simp <;> omega) | (simp; done)))) | exact Lib.hid (((B1.out).alloc (B1.out.size) _).trans (hb2.mono (by have := B1.out.size; first | assumption | (simp <;> omega) | (simp; done)))) | exact Lib.hid ((((B1.out).alloc (B1.out.size) _).alloc (by have := B1.out.size; simp <;> omega) _).trans (hb2.mono (by have := B1.out.size; first | assumption | (simp <;> omega) | (simp; done)))) | exact Lib.hid (((((B1.out).alloc (B1.out.size) _).alloc (by have := B1.out.size; simp <;> omega) _).alloc (by have := B1.out.size; simp <;> omega) _).trans (hb2.mono (by have := B1.out.size; first | assumption | (simp <;> omega) | (simp; done))))
  clear hb2
  go_simp
  go_wp2_with fail
  refine (H3.out _ (by first | exact kx_keep hM (B2.out) | exact kx_keep hM ((B2.out).alloc (B2.out.size) _) | exact kx_keep hM (((B2.out).alloc (B2.out.size) _).alloc (by have := B2.out.size; simp <;> omega) _) | exact kx_keep hM ((((B2.out).alloc (B2.out.size) _).alloc (by have := B2.out.size; simp <;> omega) _).alloc (by have := B2.out.size; simp <;> omega) _))).mono ?_
  rintro e V3 ⟨rfl, hb3⟩
  have B3 : Hid (Below w.heap.size w V3) := by first | exact Lib.hid ((B2.out).trans (hb3.mono (by have := B2.out.size; first | assumption | (simp <;> omega) | (simp; done)))) | exact Lib.hid (((B2.out).alloc (B2.out.size) _).trans (hb3.mono (by have := B2.out.size; first | assumption | (simp <;> omega) | (simp; done)))) | exact Lib.hid ((((B2.out).alloc (B2.out.size) _).alloc (by have := B2.out.size; simp <;> omega) _).trans (hb3.mono (by have := B2.out.size; first | assumption | (simp <;> omega) | (simp; done)))) | exact Lib.hid (((((B2.out).alloc (B2.out.size) _).alloc (by have := B2.out.size; simp <;> omega) _).alloc (by have := B2.out.size; simp <;> omega) _).trans (hb3.mono (by have := B2.out.size; first | assumption | (simp <;> omega) | (simp; done))))
  clear hb3
  go_simp
  go_wp2
  go_ret
  exact ⟨by rw [E.out]; try rfl, B3.out⟩
theorem dgt_zero : ∀ p : Fin 10, dgt (p.val : Int) = 48 → p.val = 0 := by decide +kernel
theorem two_zero {n : Int} (h0 : 0 ≤ n) (h1 : n ≤ 99) (h : twoL n = [48, 48]) : n = 0 := by
  unfold twoL at h
  injection h with a b
  injection b with b _
  have a' := dgt_zero ⟨(n / 10 % 10).toNat, by omega⟩ (by rw [show (((n / 10 % 10).toNat : Nat) : Int) = n / 10 % 10 by omega]; exact a)
  have b' := dgt_zero ⟨(n % 10).toNat, by omega⟩ (by rw [show (((n % 10).toNat : Nat) : Int) = n % 10 by omega]; exact b)
  simp only at a' b'
  omega
theorem trim_tim {n : Int} (h0 : 0 ≤ n) : Lib.trimSuffix (clkL n) [58, 48, 48] = timL n := by
  have hd : (clkL n).drop 5 = 58 :: twoL (n % 60) := rfl
  have hl : (clkL n).length = 8 := rfl
  unfold Lib.trimSuffix
  by_cases h : n % 60 = 0
  · have hs : Lib.hasSuffix (clkL n) [58, 48, 48] = true := by unfold clkL; rw [h]; rfl
    rw [if_pos hs]
    unfold timL clkL
    rw [if_pos h]
    rfl
  · have hs : Lib.hasSuffix (clkL n) [58, 48, 48] = false := by
      cases q : Lib.hasSuffix (clkL n) [58, 48, 48]
      · rfl
      · exfalso
        apply h
        refine two_zero (by omega) (by omega) ?_
        have q2 : [58, 48, 48] <:+ clkL n := by unfold Lib.hasSuffix at q; simpa using q
        have q3 := List.suffix_iff_eq_drop.1 q2
        rw [hl] at q3
        have q4 : [58, 48, 48] = 58 :: twoL (n % 60) := q3.trans hd
        injection q4 with _ q5
        exact q5.symm
    rw [hs]
    unfold timL clkL
    rw [if_neg h]
    simp
set_option maxHeartbeats 1600000 in
set_option maxRecDepth 100000 in
theorem pTimeWord_any (n : Int) (h0 : 0 ≤ n) (h1 : n ≤ 86400) (w : World) (hK : KX w) : Calls Tryz.prog 30 #[.int .i64 n] w fun e w' => e = .returned (.string (bs (timL n))) ∧ Below w.heap.size w w' := by
  have H1 := Lib.hid (pClockWord_any n h0 h1)
  have H2 : Hid (∀ w, Calls Tryz.prog 55 #[.string (bs (clkL n)), .string ⟨#[58, 48, 48]⟩] w fun e w' => e = .returned (.string (bs (timL n))) ∧ Below w.heap.size w w') := Lib.hid (fun w => by
    have := Tryz.strings_TrimSuffix (bs (clkL n)) ⟨#[58, 48, 48]⟩ w (by rw [bs_size, show (clkL n).length = 8 from rfl]; decide)
    rw [bs_toList, trim_tim h0, mk_bs (timL n)] at this
    exact this.mono fun e w' ⟨a, b⟩ => ⟨a, b ▸ Below.refl _ _⟩)
  generalize clkL n = C at *
  generalize timL n = T at *
  clear h0 h1
  replace hK := Lib.hid hK
  have hM := hK
  go_enter Tryz.func30, Tryz.ntmps30
  go_wp2_with fail
  
  refine (H1.out _ (by first | exact kx_keep hM (Below.refl w.heap.size w) | exact kx_keep hM ((Below.refl w.heap.size w).alloc (Nat.le_refl _) _) | exact kx_keep hM (((Below.refl w.heap.size w).alloc (Nat.le_refl _) _).alloc (by simp <;> omega) _) | exact kx_keep hM ((((Below.refl w.heap.size w).alloc (Nat.le_refl _) _).alloc (by simp <;> omega) _).alloc (by simp <;> omega) _))).mono ?_
  rintro e V1 ⟨rfl, hb1⟩
  have B1 : Hid (Below w.heap.size w V1) := by first | exact Lib.hid ((Below.refl w.heap.size w).trans (hb1.mono (by first | assumption | (simp <;> omega) | (simp; done)))) | exact Lib.hid (((Below.refl w.heap.size w).alloc (Nat.le_refl _) _).trans (hb1.mono (by first | assumption | (simp <;> omega) | (simp; done)))) | exact Lib.hid ((((Below.refl w.heap.size w).alloc (Nat.le_refl _) _).alloc (by simp <;> omega) _).trans (hb1.mono (by first | assumption | (simp <;> omega) | (simp; done)))) | exact Lib.hid (((((Below.refl w.heap.size w).alloc (Nat.le_refl _) _).alloc (by simp <;> omega) _).alloc (by simp <;> omega) _).trans (hb1.mono (by first | assumption | (simp <;> omega) | (simp; done))))
  clear hb1
  go_simp
  go_wp2_with fail
  refine (H2.out _).mono ?_
  rintro e V2 ⟨rfl, hb2⟩
  have B2 : Hid (Below w.heap.size w V2) := by first | exact Lib.hid ((B1.out).trans (hb2.mono (by have := B1.out.size; first | assumption | (simp <;> omega) | (simp; done)))) | exact Lib.hid (((B1.out).alloc (B1.out.size) _).trans (hb2.mono (by have := B1.out.size; first | assumption | (simp <;> omega) | (simp; done)))) | exact Lib.hid ((((B1.out).alloc (B1.out.size) _).alloc (by have := B1.out.size; simp <;> omega) _).trans (hb2.mono (by have := B1.out.size; first | assumption | (simp <;> omega) | (simp; done)))) | exact Lib.hid (((((B1.out).alloc (B1.out.size) _).alloc (by have := B1.out.size; simp <;> omega) _).alloc (by have := B1.out.size; simp <;> omega) _).trans (hb2.mono (by have := B1.out.size; first | assumption | (simp <;> omega) | (simp; done))))
  clear hb2
  go_simp
  go_wp2
  go_ret
  exact ⟨rfl, B2.out⟩
set_option maxHeartbeats 1600000 in
set_option maxRecDepth 100000 in
theorem pOffWord_any (n : Int) (w : World) : Calls Tryz.prog 12 #[.int .i64 n] w fun e w' => e = .returned (.string (bs (offL n))) ∧ Below w.heap.size w w' := by
  have H := Lib.hid (pShowOffset_any n)
  go_enter Tryz.func12, Tryz.ntmps12
  go_wp2_with fail
  
  refine (H.out _).mono ?_
  rintro e V1 ⟨rfl, hb1⟩
  have B1 : Hid (Below w.heap.size w V1) := by first | exact Lib.hid ((Below.refl w.heap.size w).trans (hb1.mono (by first | assumption | (simp <;> omega) | (simp; done)))) | exact Lib.hid (((Below.refl w.heap.size w).alloc (Nat.le_refl _) _).trans (hb1.mono (by first | assumption | (simp <;> omega) | (simp; done)))) | exact Lib.hid ((((Below.refl w.heap.size w).alloc (Nat.le_refl _) _).alloc (by simp <;> omega) _).trans (hb1.mono (by first | assumption | (simp <;> omega) | (simp; done)))) | exact Lib.hid (((((Below.refl w.heap.size w).alloc (Nat.le_refl _) _).alloc (by simp <;> omega) _).alloc (by simp <;> omega) _).trans (hb1.mono (by first | assumption | (simp <;> omega) | (simp; done))))
  clear hb1
  go_simp
  go_wp2
  go_ret
  exact ⟨rfl, B1.out⟩
set_option maxHeartbeats 1600000 in
set_option maxRecDepth 100000 in
theorem pDateWord_pos (y m d : Int) (hy : 0 ≤ y) (h1 : -9999 ≤ y) (h2 : y ≤ 9999) (m0 : 0 ≤ m) (m1 : m ≤ 99) (d0 : 0 ≤ d) (d1 : d ≤ 99) (w : World) (hK : KX w) : Calls Tryz.prog 52 #[.int .i64 y, .int .i64 m, .int .i64 d] w fun e w' => e = .returned (.string (bs (twoL (y / 100) ++ twoL (y % 100) ++ [45] ++ twoL m ++ [45] ++ twoL d))) ∧ Below w.heap.size w w' := by
  have q0 : ¬ (y < 0) := by omega
  have e1 : (y).tdiv 100 = (y) / 100 := Int.tdiv_eq_ediv_of_nonneg (by omega)
  have e2 : (y).tmod 100 = (y) % 100 := Int.tmod_eq_emod_of_nonneg (by omega)
  have X1 := pPair15_any ((y) / 100) (by omega) (by omega)
  have X2 := pPair15_any ((y) % 100) (by omega) (by omega)
  have H3 := Lib.hid (pPair15_any m m0 m1)
  have H4 := Lib.hid (pPair15_any d d0 d1)
  have H1 := Lib.hid X1
  have H2 := Lib.hid X2
  clear X1 X2
  have w1 : IntKind.i64.wrap ((y) / 100) = (y) / 100 := wrap_small _ (by omega) (by omega)
  have w2 : IntKind.i64.wrap ((y) % 100) = (y) % 100 := wrap_small _ (by omega) (by omega)
  generalize hh : (y) / 100 = h at *
  generalize hq : (y) % 100 = q at *
  replace hh := Lib.hid hh
  replace hq := Lib.hid hq
  have z0 : (bs (twoL h)).size = 2 := by rw [bs_size]; rfl
  have a9 : (⟨#[]⟩ : ByteArray) ++ bs (twoL h) = bs (twoL h) := by rw [← bs_empty, append_bs]; rfl
  have z1 : (bs (twoL q)).size = 2 := by rw [bs_size]; rfl
  have a2 : bs (twoL h) ++ bs (twoL q) = bs (twoL h ++ twoL q) := by rw [append_bs]
  have s2 : (bs (twoL h ++ twoL q)).size = 4 := by rw [bs_size]; rfl
  have a3 : bs (twoL h ++ twoL q) ++ (⟨#[45]⟩ : ByteArray) = bs (twoL h ++ twoL q ++ [45]) := by rw [lit_bs15, append_bs]
  have s3 : (bs (twoL h ++ twoL q ++ [45])).size = 5 := by rw [bs_size]; rfl
  have z4 : (bs (twoL m)).size = 2 := by rw [bs_size]; rfl
  have a5 : bs (twoL h ++ twoL q ++ [45]) ++ bs (twoL m) = bs (twoL h ++ twoL q ++ [45] ++ twoL m) := by rw [append_bs]
  have s5 : (bs (twoL h ++ twoL q ++ [45] ++ twoL m)).size = 7 := by rw [bs_size]; rfl
  have a6 : bs (twoL h ++ twoL q ++ [45] ++ twoL m) ++ (⟨#[45]⟩ : ByteArray) = bs (twoL h ++ twoL q ++ [45] ++ twoL m ++ [45]) := by rw [lit_bs15, append_bs]
  have s6 : (bs (twoL h ++ twoL q ++ [45] ++ twoL m ++ [45])).size = 8 := by rw [bs_size]; rfl
  have z7 : (bs (twoL d)).size = 2 := by rw [bs_size]; rfl
  have a8 : bs (twoL h ++ twoL q ++ [45] ++ twoL m ++ [45]) ++ bs (twoL d) = bs (twoL h ++ twoL q ++ [45] ++ twoL m ++ [45] ++ twoL d) := by rw [append_bs]
  have s8 : (bs (twoL h ++ twoL q ++ [45] ++ twoL m ++ [45] ++ twoL d)).size = 10 := by rw [bs_size]; rfl
  generalize twoL h ++ twoL q ++ [45] ++ twoL m ++ [45] ++ twoL d = S5 at *
  generalize twoL h ++ twoL q ++ [45] ++ twoL m ++ [45] = S4 at *
  generalize twoL h ++ twoL q ++ [45] ++ twoL m = S3 at *
  generalize twoL h ++ twoL q ++ [45] = S2 at *
  generalize twoL h ++ twoL q = S1 at *
  generalize twoL h = T0 at *
  generalize twoL q = T1 at *
  generalize twoL m = T3 at *
  generalize twoL d = T5 at *
  clear h1 h2 m0 m1 d0 d1 hy
  replace hK := Lib.hid hK
  have hM := hK
  go_enter Tryz.func52, Tryz.ntmps52
  go_wp2_with fail
  
  refine (H1.out _ (by first | exact kx_keep hM (Below.refl w.heap.size w) | exact kx_keep hM ((Below.refl w.heap.size w).alloc (Nat.le_refl _) _) | exact kx_keep hM (((Below.refl w.heap.size w).alloc (Nat.le_refl _) _).alloc (by simp <;> omega) _) | exact kx_keep hM ((((Below.refl w.heap.size w).alloc (Nat.le_refl _) _).alloc (by simp <;> omega) _).alloc (by simp <;> omega) _))).mono ?_
  rintro e V1 ⟨rfl, hb1⟩
  have B1 : Hid (Below w.heap.size w V1) := by first | exact Lib.hid ((Below.refl w.heap.size w).trans (hb1.mono (by first | assumption | (simp <;> omega) | (simp; done)))) | exact Lib.hid (((Below.refl w.heap.size w).alloc (Nat.le_refl _) _).trans (hb1.mono (by first | assumption | (simp <;> omega) | (simp; done)))) | exact Lib.hid ((((Below.refl w.heap.size w).alloc (Nat.le_refl _) _).alloc (by simp <;> omega) _).trans (hb1.mono (by first | assumption | (simp <;> omega) | (simp; done)))) | exact Lib.hid (((((Below.refl w.heap.size w).alloc (Nat.le_refl _) _).alloc (by simp <;> omega) _).alloc (by simp <;> omega) _).trans (hb1.mono (by first | assumption | (simp <;> omega) | (simp; done))))
  clear hb1
  go_simp
  go_wp2_with fail
  refine (H2.out _ (by first | exact kx_keep hM (B1.out) | exact kx_keep hM ((B1.out).alloc (B1.out.size) _) | exact kx_keep hM (((B1.out).alloc (B1.out.size) _).alloc (by have := B1.out.size; simp <;> omega) _) | exact kx_keep hM ((((B1.out).alloc (B1.out.size) _).alloc (by have := B1.out.size; simp <;> omega) _).alloc (by have := B1.out.size; simp <;> omega) _))).mono ?_
  rintro e V2 ⟨rfl, hb2⟩
  have B2 : Hid (Below w.heap.size w V2) := by first | exact Lib.hid ((B1.out).trans (hb2.mono (by have := B1.out.size; first | assumption | (simp <;> omega) | (simp; done)))) | exact Lib.hid (((B1.out).alloc (B1.out.size) _).trans (hb2.mono (by have := B1.out.size; first | assumption | (simp <;> omega) | (simp; done)))) | exact Lib.hid ((((B1.out).alloc (B1.out.size) _).alloc (by have := B1.out.size; simp <;> omega) _).trans (hb2.mono (by have := B1.out.size; first | assumption | (simp <;> omega) | (simp; done)))) | exact Lib.hid (((((B1.out).alloc (B1.out.size) _).alloc (by have := B1.out.size; simp <;> omega) _).alloc (by have := B1.out.size; simp <;> omega) _).trans (hb2.mono (by have := B1.out.size; first | assumption | (simp <;> omega) | (simp; done))))
  clear hb2
  go_simp
  go_wp2_with fail
  refine (H3.out _ (by first | exact kx_keep hM (B2.out) | exact kx_keep hM ((B2.out).alloc (B2.out.size) _) | exact kx_keep hM (((B2.out).alloc (B2.out.size) _).alloc (by have := B2.out.size; simp <;> omega) _) | exact kx_keep hM ((((B2.out).alloc (B2.out.size) _).alloc (by have := B2.out.size; simp <;> omega) _).alloc (by have := B2.out.size; simp <;> omega) _))).mono ?_
  rintro e V3 ⟨rfl, hb3⟩
  have B3 : Hid (Below w.heap.size w V3) := by first | exact Lib.hid ((B2.out).trans (hb3.mono (by have := B2.out.size; first | assumption | (simp <;> omega) | (simp; done)))) | exact Lib.hid (((B2.out).alloc (B2.out.size) _).trans (hb3.mono (by have := B2.out.size; first | assumption | (simp <;> omega) | (simp; done)))) | exact Lib.hid ((((B2.out).alloc (B2.out.size) _).alloc (by have := B2.out.size; simp <;> omega) _).trans (hb3.mono (by have := B2.out.size; first | assumption | (simp <;> omega) | (simp; done)))) | exact Lib.hid (((((B2.out).alloc (B2.out.size) _).alloc (by have := B2.out.size; simp <;> omega) _).alloc (by have := B2.out.size; simp <;> omega) _).trans (hb3.mono (by have := B2.out.size; first | assumption | (simp <;> omega) | (simp; done))))
  clear hb3
  go_simp
  go_wp2_with fail
  refine (H4.out _ (by first | exact kx_keep hM (B3.out) | exact kx_keep hM ((B3.out).alloc (B3.out.size) _) | exact kx_keep hM (((B3.out).alloc (B3.out.size) _).alloc (by have := B3.out.size; simp <;> omega) _) | exact kx_keep hM ((((B3.out).alloc (B3.out.size) _).alloc (by have := B3.out.size; simp <;> omega) _).alloc (by have := B3.out.size; simp <;> omega) _))).mono ?_
  rintro e V4 ⟨rfl, hb4⟩
  have B4 : Hid (Below w.heap.size w V4) := by first | exact Lib.hid ((B3.out).trans (hb4.mono (by have := B3.out.size; first | assumption | (simp <;> omega) | (simp; done)))) | exact Lib.hid (((B3.out).alloc (B3.out.size) _).trans (hb4.mono (by have := B3.out.size; first | assumption | (simp <;> omega) | (simp; done)))) | exact Lib.hid ((((B3.out).alloc (B3.out.size) _).alloc (by have := B3.out.size; simp <;> omega) _).trans (hb4.mono (by have := B3.out.size; first | assumption | (simp <;> omega) | (simp; done)))) | exact Lib.hid (((((B3.out).alloc (B3.out.size) _).alloc (by have := B3.out.size; simp <;> omega) _).alloc (by have := B3.out.size; simp <;> omega) _).trans (hb4.mono (by have := B3.out.size; first | assumption | (simp <;> omega) | (simp; done))))
  clear hb4
  go_simp
  go_wp2
  go_ret
  exact ⟨by try rfl, B4.out⟩
set_option maxHeartbeats 1600000 in
set_option maxRecDepth 100000 in
theorem pDateWord_neg (y m d : Int) (hy : y < 0) (h1 : -9999 ≤ y) (h2 : y ≤ 9999) (m0 : 0 ≤ m) (m1 : m ≤ 99) (d0 : 0 ≤ d) (d1 : d ≤ 99) (w : World) (hK : KX w) : Calls Tryz.prog 52 #[.int .i64 y, .int .i64 m, .int .i64 d] w fun e w' => e = .returned (.string (bs ([45] ++ twoL (-y / 100) ++ twoL (-y % 100) ++ [45] ++ twoL m ++ [45] ++ twoL d))) ∧ Below w.heap.size w w' := by
  have q0 : y < 0 := by omega
  have e1 : (-y).tdiv 100 = (-y) / 100 := Int.tdiv_eq_ediv_of_nonneg (by omega)
  have e2 : (-y).tmod 100 = (-y) % 100 := Int.tmod_eq_emod_of_nonneg (by omega)
  have X1 := pPair15_any ((-y) / 100) (by omega) (by omega)
  have X2 := pPair15_any ((-y) % 100) (by omega) (by omega)
  have H3 := Lib.hid (pPair15_any m m0 m1)
  have H4 := Lib.hid (pPair15_any d d0 d1)
  have H1 := Lib.hid X1
  have H2 := Lib.hid X2
  have hwn : IntKind.i64.wrap (-y) = -y := wrap_small _ (by omega) (by omega)
  clear X1 X2
  have w1 : IntKind.i64.wrap ((-y) / 100) = (-y) / 100 := wrap_small _ (by omega) (by omega)
  have w2 : IntKind.i64.wrap ((-y) % 100) = (-y) % 100 := wrap_small _ (by omega) (by omega)
  generalize hh : (-y) / 100 = h at *
  generalize hq : (-y) % 100 = q at *
  replace hh := Lib.hid hh
  replace hq := Lib.hid hq
  have z0 : (bs (twoL h)).size = 2 := by rw [bs_size]; rfl
  have a1 : (⟨#[45]⟩ : ByteArray) ++ bs (twoL h) = bs ([45] ++ twoL h) := by rw [lit_bs15, append_bs]
  have s1 : (bs ([45] ++ twoL h)).size = 3 := by rw [bs_size]; rfl
  have z2 : (bs (twoL q)).size = 2 := by rw [bs_size]; rfl
  have a3 : bs ([45] ++ twoL h) ++ bs (twoL q) = bs ([45] ++ twoL h ++ twoL q) := by rw [append_bs]
  have s3 : (bs ([45] ++ twoL h ++ twoL q)).size = 5 := by rw [bs_size]; rfl
  have a4 : bs ([45] ++ twoL h ++ twoL q) ++ (⟨#[45]⟩ : ByteArray) = bs ([45] ++ twoL h ++ twoL q ++ [45]) := by rw [lit_bs15, append_bs]
  have s4 : (bs ([45] ++ twoL h ++ twoL q ++ [45])).size = 6 := by rw [bs_size]; rfl
  have z5 : (bs (twoL m)).size = 2 := by rw [bs_size]; rfl
  have a6 : bs ([45] ++ twoL h ++ twoL q ++ [45]) ++ bs (twoL m) = bs ([45] ++ twoL h ++ twoL q ++ [45] ++ twoL m) := by rw [append_bs]
  have s6 : (bs ([45] ++ twoL h ++ twoL q ++ [45] ++ twoL m)).size = 8 := by rw [bs_size]; rfl
  have a7 : bs ([45] ++ twoL h ++ twoL q ++ [45] ++ twoL m) ++ (⟨#[45]⟩ : ByteArray) = bs ([45] ++ twoL h ++ twoL q ++ [45] ++ twoL m ++ [45]) := by rw [lit_bs15, append_bs]
  have s7 : (bs ([45] ++ twoL h ++ twoL q ++ [45] ++ twoL m ++ [45])).size = 9 := by rw [bs_size]; rfl
  have z8 : (bs (twoL d)).size = 2 := by rw [bs_size]; rfl
  have a9 : bs ([45] ++ twoL h ++ twoL q ++ [45] ++ twoL m ++ [45]) ++ bs (twoL d) = bs ([45] ++ twoL h ++ twoL q ++ [45] ++ twoL m ++ [45] ++ twoL d) := by rw [append_bs]
  have s9 : (bs ([45] ++ twoL h ++ twoL q ++ [45] ++ twoL m ++ [45] ++ twoL d)).size = 11 := by rw [bs_size]; rfl
  generalize [45] ++ twoL h ++ twoL q ++ [45] ++ twoL m ++ [45] ++ twoL d = S6 at *
  generalize [45] ++ twoL h ++ twoL q ++ [45] ++ twoL m ++ [45] = S5 at *
  generalize [45] ++ twoL h ++ twoL q ++ [45] ++ twoL m = S4 at *
  generalize [45] ++ twoL h ++ twoL q ++ [45] = S3 at *
  generalize [45] ++ twoL h ++ twoL q = S2 at *
  generalize [45] ++ twoL h = S1 at *
  generalize twoL h = T1 at *
  generalize twoL q = T2 at *
  generalize twoL m = T4 at *
  generalize twoL d = T6 at *
  clear h1 h2 m0 m1 d0 d1 hy
  replace hK := Lib.hid hK
  have hM := hK
  go_enter Tryz.func52, Tryz.ntmps52
  go_wp2_with fail
  
  refine (H1.out _ (by first | exact kx_keep hM (Below.refl w.heap.size w) | exact kx_keep hM ((Below.refl w.heap.size w).alloc (Nat.le_refl _) _) | exact kx_keep hM (((Below.refl w.heap.size w).alloc (Nat.le_refl _) _).alloc (by simp <;> omega) _) | exact kx_keep hM ((((Below.refl w.heap.size w).alloc (Nat.le_refl _) _).alloc (by simp <;> omega) _).alloc (by simp <;> omega) _))).mono ?_
  rintro e V1 ⟨rfl, hb1⟩
  have B1 : Hid (Below w.heap.size w V1) := by first | exact Lib.hid ((Below.refl w.heap.size w).trans (hb1.mono (by first | assumption | (simp <;> omega) | (simp; done)))) | exact Lib.hid (((Below.refl w.heap.size w).alloc (Nat.le_refl _) _).trans (hb1.mono (by first | assumption | (simp <;> omega) | (simp; done)))) | exact Lib.hid ((((Below.refl w.heap.size w).alloc (Nat.le_refl _) _).alloc (by simp <;> omega) _).trans (hb1.mono (by first | assumption | (simp <;> omega) | (simp; done)))) | exact Lib.hid (((((Below.refl w.heap.size w).alloc (Nat.le_refl _) _).alloc (by simp <;> omega) _).alloc (by simp <;> omega) _).trans (hb1.mono (by first | assumption | (simp <;> omega) | (simp; done))))
  clear hb1
  go_simp
  go_wp2_with fail
  refine (H2.out _ (by first | exact kx_keep hM (B1.out) | exact kx_keep hM ((B1.out).alloc (B1.out.size) _) | exact kx_keep hM (((B1.out).alloc (B1.out.size) _).alloc (by have := B1.out.size; simp <;> omega) _) | exact kx_keep hM ((((B1.out).alloc (B1.out.size) _).alloc (by have := B1.out.size; simp <;> omega) _).alloc (by have := B1.out.size; simp <;> omega) _))).mono ?_
  rintro e V2 ⟨rfl, hb2⟩
  have B2 : Hid (Below w.heap.size w V2) := by first | exact Lib.hid ((B1.out).trans (hb2.mono (by have := B1.out.size; first | assumption | (simp <;> omega) | (simp; done)))) | exact Lib.hid (((B1.out).alloc (B1.out.size) _).trans (hb2.mono (by have := B1.out.size; first | assumption | (simp <;> omega) | (simp; done)))) | exact Lib.hid ((((B1.out).alloc (B1.out.size) _).alloc (by have := B1.out.size; simp <;> omega) _).trans (hb2.mono (by have := B1.out.size; first | assumption | (simp <;> omega) | (simp; done)))) | exact Lib.hid (((((B1.out).alloc (B1.out.size) _).alloc (by have := B1.out.size; simp <;> omega) _).alloc (by have := B1.out.size; simp <;> omega) _).trans (hb2.mono (by have := B1.out.size; first | assumption | (simp <;> omega) | (simp; done))))
  clear hb2
  go_simp
  go_wp2_with fail
  refine (H3.out _ (by first | exact kx_keep hM (B2.out) | exact kx_keep hM ((B2.out).alloc (B2.out.size) _) | exact kx_keep hM (((B2.out).alloc (B2.out.size) _).alloc (by have := B2.out.size; simp <;> omega) _) | exact kx_keep hM ((((B2.out).alloc (B2.out.size) _).alloc (by have := B2.out.size; simp <;> omega) _).alloc (by have := B2.out.size; simp <;> omega) _))).mono ?_
  rintro e V3 ⟨rfl, hb3⟩
  have B3 : Hid (Below w.heap.size w V3) := by first | exact Lib.hid ((B2.out).trans (hb3.mono (by have := B2.out.size; first | assumption | (simp <;> omega) | (simp; done)))) | exact Lib.hid (((B2.out).alloc (B2.out.size) _).trans (hb3.mono (by have := B2.out.size; first | assumption | (simp <;> omega) | (simp; done)))) | exact Lib.hid ((((B2.out).alloc (B2.out.size) _).alloc (by have := B2.out.size; simp <;> omega) _).trans (hb3.mono (by have := B2.out.size; first | assumption | (simp <;> omega) | (simp; done)))) | exact Lib.hid (((((B2.out).alloc (B2.out.size) _).alloc (by have := B2.out.size; simp <;> omega) _).alloc (by have := B2.out.size; simp <;> omega) _).trans (hb3.mono (by have := B2.out.size; first | assumption | (simp <;> omega) | (simp; done))))
  clear hb3
  go_simp
  go_wp2_with fail
  refine (H4.out _ (by first | exact kx_keep hM (B3.out) | exact kx_keep hM ((B3.out).alloc (B3.out.size) _) | exact kx_keep hM (((B3.out).alloc (B3.out.size) _).alloc (by have := B3.out.size; simp <;> omega) _) | exact kx_keep hM ((((B3.out).alloc (B3.out.size) _).alloc (by have := B3.out.size; simp <;> omega) _).alloc (by have := B3.out.size; simp <;> omega) _))).mono ?_
  rintro e V4 ⟨rfl, hb4⟩
  have B4 : Hid (Below w.heap.size w V4) := by first | exact Lib.hid ((B3.out).trans (hb4.mono (by have := B3.out.size; first | assumption | (simp <;> omega) | (simp; done)))) | exact Lib.hid (((B3.out).alloc (B3.out.size) _).trans (hb4.mono (by have := B3.out.size; first | assumption | (simp <;> omega) | (simp; done)))) | exact Lib.hid ((((B3.out).alloc (B3.out.size) _).alloc (by have := B3.out.size; simp <;> omega) _).trans (hb4.mono (by have := B3.out.size; first | assumption | (simp <;> omega) | (simp; done)))) | exact Lib.hid (((((B3.out).alloc (B3.out.size) _).alloc (by have := B3.out.size; simp <;> omega) _).alloc (by have := B3.out.size; simp <;> omega) _).trans (hb4.mono (by have := B3.out.size; first | assumption | (simp <;> omega) | (simp; done))))
  clear hb4
  go_simp
  go_wp2
  go_ret
  exact ⟨by try rfl, B4.out⟩
end Go.Proofs.YteinjdmkmfeniaaGreatDoor
namespace Go.Proofs.YteinjdmkmfeniaaGreatDoor
set_option linter.unusedVariables false
set_option linter.unusedSimpArgs false
open Go.ChangeShapes Go.WideShapes Go.ChangeAt Go.RowKit
@[irreducible] def inI (n lo hi : Int) : Bool := decide (lo ≤ n) && decide (n ≤ hi)
theorem inI_iff (n lo hi : Int) : inI n lo hi = true ↔ (lo ≤ n ∧ n ≤ hi) := by unfold inI; simp
theorem inI_no {n lo hi : Int} (h : ¬ (lo ≤ n ∧ n ≤ hi)) : inI n lo hi = false := by rw [Bool.eq_false_iff]; intro e; exact h ((inI_iff n lo hi).1 e)
set_option maxHeartbeats 1600000 in
set_option maxRecDepth 100000 in
theorem pWithin15_p (n lo hi : Int) (w : World) : Calls Tryz.prog 43 #[.int .i64 n, .int .i64 lo, .int .i64 hi] w fun e w' => e = .returned (.bool (inI n lo hi)) ∧ w = w' := by
  by_cases h1 : lo ≤ n
  · by_cases h2 : n ≤ hi
    · have E := Lib.hid ((inI_iff n lo hi).2 ⟨h1, h2⟩)
      have d1 : decide (lo ≤ n) = true := decide_eq_true h1
      have d2 : decide (n ≤ hi) = true := decide_eq_true h2
      replace h1 := Lib.hid h1
      replace h2 := Lib.hid h2
      go_enter Tryz.func43, Tryz.ntmps43
      go_wp2
      go_ret
      exact ⟨by rw [E.out]; try rfl, rfl⟩
    · have E := Lib.hid (inI_no (lo := lo) (hi := hi) (n := n) (fun e => h2 e.2))
      have d1 : decide (lo ≤ n) = true := decide_eq_true h1
      have d2 : decide (n ≤ hi) = false := decide_eq_false h2
      replace h1 := Lib.hid h1
      replace h2 := Lib.hid h2
      go_enter Tryz.func43, Tryz.ntmps43
      go_wp2
      go_ret
      exact ⟨by rw [E.out]; try rfl, rfl⟩
  · have E := Lib.hid (inI_no (lo := lo) (hi := hi) (n := n) (fun e => h1 e.1))
    have d1 : decide (lo ≤ n) = false := decide_eq_false h1
    replace h1 := Lib.hid h1
    go_enter Tryz.func43, Tryz.ntmps43
    go_wp2
    go_ret
    exact ⟨by rw [E.out]; try rfl, rfl⟩
set_option maxHeartbeats 1600000 in
set_option maxRecDepth 100000 in
theorem pIsYear_p (n : Int) (w : World) : Calls Tryz.prog 68 #[.int .i64 n] w fun e w' => e = .returned (.bool (inI n (-9999) 9999)) ∧ w = w' := by
  have H := Lib.hid (pWithin15_p n (-9999) 9999)
  generalize inI n (-9999) 9999 = b at *
  go_enter Tryz.func68, Tryz.ntmps68
  go_wp2_with fail
  refine (H.out _).mono ?_
  rintro e w1 ⟨rfl, rfl⟩
  go_wp2
  go_ret
  exact ⟨rfl, rfl⟩
set_option maxHeartbeats 1600000 in
set_option maxRecDepth 100000 in
theorem pIsOffset_p (n : Int) (w : World) : Calls Tryz.prog 45 #[.int .i64 n] w fun e w' => e = .returned (.bool (inI n (-64800) 64800)) ∧ w = w' := by
  have H := Lib.hid (pWithin15_p n (-64800) 64800)
  generalize inI n (-64800) 64800 = b at *
  go_enter Tryz.func45, Tryz.ntmps45
  go_wp2_with fail
  refine (H.out _).mono ?_
  rintro e w1 ⟨rfl, rfl⟩
  go_wp2
  go_ret
  exact ⟨rfl, rfl⟩
@[irreducible] def yeB (f t : Int) : Bool := inI f (-9999) 9999 && (decide (t = 1048576) || (inI t (-9999) 9999 && decide (f ≤ t)))
theorem yeB_iff (f t : Int) : yeB f t = true ↔ ((-9999 ≤ f ∧ f ≤ 9999) ∧ (t = 1048576 ∨ (-9999 ≤ t ∧ t ≤ 9999 ∧ f ≤ t))) := by
  unfold yeB
  simp [inI_iff, and_assoc]
set_option maxHeartbeats 1600000 in
set_option maxRecDepth 100000 in
theorem pYears15_p (f t : Int) (w : World) : Calls Tryz.prog 42 #[.int .i64 f, .int .i64 t] w fun e w' => e = .returned (.bool (yeB f t)) ∧ w = w' := by
  have H1 := Lib.hid (pIsYear_p f)
  have H2 := Lib.hid (pIsYear_p t)
  have E : Hid (yeB f t = (inI f (-9999) 9999 && (decide (t = 1048576) || (inI t (-9999) 9999 && decide (f ≤ t))))) := Lib.hid (by unfold yeB; rfl)
  generalize inI f (-9999) 9999 = a at *
  generalize inI t (-9999) 9999 = b at *
  cases a
  · go_enter Tryz.func42, Tryz.ntmps42
    go_wp2_with fail
    refine (H1.out _).mono ?_
    rintro e w1 ⟨rfl, rfl⟩
    go_wp2
    go_ret
    exact ⟨by rw [E.out]; rfl, rfl⟩
  · by_cases h1 : t = 1048576
    · subst h1
      go_enter Tryz.func42, Tryz.ntmps42
      go_wp2_with fail
      refine (H1.out _).mono ?_
      rintro e w1 ⟨rfl, rfl⟩
      go_wp2
      go_ret
      exact ⟨by rw [E.out]; simp, rfl⟩
    · have q1 : (t == 1048576) = false := beq_false_of_ne h1
      have d1 : decide (t = 1048576) = false := decide_eq_false h1
      replace h1 := Lib.hid h1
      cases b
      · go_enter Tryz.func42, Tryz.ntmps42
        go_wp2_with fail
        refine (H1.out _).mono ?_
        rintro e w1 ⟨rfl, rfl⟩
        go_wp2_with fail
        refine (H2.out _).mono ?_
        rintro e w1 ⟨rfl, rfl⟩
        go_wp2
        go_ret
        exact ⟨by rw [E.out]; rw [d1]; rfl, rfl⟩
      · by_cases h2 : f ≤ t
        · have d2 : decide (f ≤ t) = true := decide_eq_true h2
          replace h2 := Lib.hid h2
          go_enter Tryz.func42, Tryz.ntmps42
          go_wp2_with fail
          refine (H1.out _).mono ?_
          rintro e w1 ⟨rfl, rfl⟩
          go_wp2_with fail
          refine (H2.out _).mono ?_
          rintro e w1 ⟨rfl, rfl⟩
          go_wp2
          go_ret
          exact ⟨by rw [E.out]; rw [d1, d2]; rfl, rfl⟩
        · have d2 : decide (f ≤ t) = false := decide_eq_false h2
          replace h2 := Lib.hid h2
          go_enter Tryz.func42, Tryz.ntmps42
          go_wp2_with fail
          refine (H1.out _).mono ?_
          rintro e w1 ⟨rfl, rfl⟩
          go_wp2_with fail
          refine (H2.out _).mono ?_
          rintro e w1 ⟨rfl, rfl⟩
          go_wp2
          go_ret
          exact ⟨by rw [E.out]; rw [d1, d2]; rfl, rfl⟩
def nmW (k : Int) : List UInt8 := if 1 ≤ k ∧ k ≤ 7 then wkS k else []
def dwL (k n x : Int) : List UInt8 := if k = 0 then nbI n else if k = 1 then lastL ++ nmW x else if k = 2 then nmW x ++ [62, 61] ++ nbI n else if k = 3 then nmW x ++ [60, 61] ++ nbI n else []
theorem dn_wkS : ∀ j : Fin 7, dnT.getD j.val [] = wkS ((j.val : Int) + 1) := by decide +kernel
theorem gDN15 : Tryz.prog.globalNamed "analemma/rules.dayNames" = some 1 := by kernel_rfl
theorem nbI_len21 {n : Int} (h0 : -9223372036854775808 ≤ n) (h1 : n ≤ 9223372036854775807) : (nbI n).length ≤ 21 := by
  rw [← itoa_nbI]; exact Lib.itoa_length_le n h0 h1
theorem nmW_len (k : Int) : (nmW k).length ≤ 3 := by
  unfold nmW
  split
  · rename_i h; rw [wkS_len k h.1 h.2]; exact Nat.le_refl _
  · simp
set_option maxHeartbeats 1600000 in
set_option maxRecDepth 100000 in
theorem pDayWord_in0 (j : Nat) (hj : j < 7) (n : Int) (n0 : -9223372036854775808 ≤ n) (n1 : n ≤ 9223372036854775807) (w : World) (hK : KX w) : Calls Tryz.prog 29 #[.agg #[.int .i64 0, .int .i64 n, .int .i64 ((j : Int) + 1)]] w fun e w' => e = .returned (.string (bs (dwL 0 n ((j : Int) + 1)))) ∧ Below w.heap.size w w' := by
  have hI : inI ((j : Int) + 1) 1 7 = true := (inI_iff _ _ _).2 ⟨by omega, by omega⟩
  have hT : nmW ((j : Int) + 1) = dnT.getD j [] := by
    unfold nmW
    rw [if_pos (by omega)]
    exact (dn_wkS ⟨j, hj⟩).symm
  have hc := (strsAt_keep hK.dr ((Below.refl _ w).alloc (Nat.le_refl _) (.cells #[.int .i64 0, .int .i64 n, .int .i64 ((j : Int) + 1)] 39)) _ gDN15).1 j hj
  rw [← hT] at hc
  have hw : IntKind.i64.wrap ((j : Int) + 1 - 1) = (j : Int) := by rw [wrap_small _ (by omega) (by omega)]; omega
  have hj0 : (0 : Int) ≤ (j : Int) ∧ (j : Int) < 7 := by omega
  have HI := pWithin15_p ((j : Int) + 1) 1 7
  rw [hI] at HI
  replace HI := Lib.hid HI
  have hl := nmW_len ((j : Int) + 1)
  have HN := Lib.hid (pItoa_any n n0 n1)
  have hn := nbI_len21 n0 n1
  have E : Hid (dwL 0 n ((j : Int) + 1) = nbI n) := Lib.hid rfl
  generalize nbI n = N at *
  generalize nmW ((j : Int) + 1) = T at *
  replace hT := Lib.hid hT
  clear n0 n1
  replace hK := Lib.hid hK
  replace hI := Lib.hid hI
  go_enter Tryz.func29, Tryz.ntmps29
  go_wp2_with fail
  refine (HI.out _).mono ?_
  rintro e w1 ⟨rfl, rfl⟩
  go_wp2_with fail
  refine (HN.out _ (kx_keep hK ((Below.refl _ w).alloc (Nat.le_refl _) _))).mono ?_
  rintro e w2 ⟨rfl, hb2⟩
  replace hb2 := Lib.hid hb2
  go_wp2
  go_ret
  exact ⟨by rw [E.out]; try rfl, ((Below.refl _ w).alloc (Nat.le_refl _) _).trans (hb2.out.mono (by simp))⟩
set_option maxHeartbeats 1600000 in
set_option maxRecDepth 100000 in
theorem pDayWord_in1 (j : Nat) (hj : j < 7) (n : Int) (n0 : -9223372036854775808 ≤ n) (n1 : n ≤ 9223372036854775807) (w : World) (hK : KX w) : Calls Tryz.prog 29 #[.agg #[.int .i64 1, .int .i64 n, .int .i64 ((j : Int) + 1)]] w fun e w' => e = .returned (.string (bs (dwL 1 n ((j : Int) + 1)))) ∧ Below w.heap.size w w' := by
  have hI : inI ((j : Int) + 1) 1 7 = true := (inI_iff _ _ _).2 ⟨by omega, by omega⟩
  have hT : nmW ((j : Int) + 1) = dnT.getD j [] := by
    unfold nmW
    rw [if_pos (by omega)]
    exact (dn_wkS ⟨j, hj⟩).symm
  have hc := (strsAt_keep hK.dr ((Below.refl _ w).alloc (Nat.le_refl _) (.cells #[.int .i64 1, .int .i64 n, .int .i64 ((j : Int) + 1)] 39)) _ gDN15).1 j hj
  rw [← hT] at hc
  have hw : IntKind.i64.wrap ((j : Int) + 1 - 1) = (j : Int) := by rw [wrap_small _ (by omega) (by omega)]; omega
  have hj0 : (0 : Int) ≤ (j : Int) ∧ (j : Int) < 7 := by omega
  have HI := pWithin15_p ((j : Int) + 1) 1 7
  rw [hI] at HI
  replace HI := Lib.hid HI
  have hl := nmW_len ((j : Int) + 1)
  have E : Hid (dwL 1 n ((j : Int) + 1) = lastL ++ nmW ((j : Int) + 1)) := Lib.hid rfl
  have z0 := bs_size (nmW ((j : Int) + 1))
  have a0 : (⟨#[108, 97, 115, 116, 45]⟩ : ByteArray) ++ bs (nmW ((j : Int) + 1)) = bs (lastL ++ nmW ((j : Int) + 1)) := by rw [lit_bs15, append_bs]; rfl
  have hm : ¬ (9223372036854775807 < 5 + (nmW ((j : Int) + 1)).length) := by omega
  generalize lastL ++ nmW ((j : Int) + 1) = S1 at *
  generalize nmW ((j : Int) + 1) = T at *
  replace hT := Lib.hid hT
  clear n0 n1
  replace hK := Lib.hid hK
  replace hI := Lib.hid hI
  go_enter Tryz.func29, Tryz.ntmps29
  go_wp2_with fail
  refine (HI.out _).mono ?_
  rintro e w1 ⟨rfl, rfl⟩
  go_wp2
  go_ret
  exact ⟨by rw [E.out]; try rfl, (Below.refl _ w).alloc (Nat.le_refl _) _⟩
set_option maxHeartbeats 1600000 in
set_option maxRecDepth 100000 in
theorem pDayWord_in2 (j : Nat) (hj : j < 7) (n : Int) (n0 : -9223372036854775808 ≤ n) (n1 : n ≤ 9223372036854775807) (w : World) (hK : KX w) : Calls Tryz.prog 29 #[.agg #[.int .i64 2, .int .i64 n, .int .i64 ((j : Int) + 1)]] w fun e w' => e = .returned (.string (bs (dwL 2 n ((j : Int) + 1)))) ∧ Below w.heap.size w w' := by
  have hI : inI ((j : Int) + 1) 1 7 = true := (inI_iff _ _ _).2 ⟨by omega, by omega⟩
  have hT : nmW ((j : Int) + 1) = dnT.getD j [] := by
    unfold nmW
    rw [if_pos (by omega)]
    exact (dn_wkS ⟨j, hj⟩).symm
  have hc := (strsAt_keep hK.dr ((Below.refl _ w).alloc (Nat.le_refl _) (.cells #[.int .i64 2, .int .i64 n, .int .i64 ((j : Int) + 1)] 39)) _ gDN15).1 j hj
  rw [← hT] at hc
  have hw : IntKind.i64.wrap ((j : Int) + 1 - 1) = (j : Int) := by rw [wrap_small _ (by omega) (by omega)]; omega
  have hj0 : (0 : Int) ≤ (j : Int) ∧ (j : Int) < 7 := by omega
  have HI := pWithin15_p ((j : Int) + 1) 1 7
  rw [hI] at HI
  replace HI := Lib.hid HI
  have hl := nmW_len ((j : Int) + 1)
  have HN := Lib.hid (pItoa_any n n0 n1)
  have hn := nbI_len21 n0 n1
  have E : Hid (dwL 2 n ((j : Int) + 1) = nmW ((j : Int) + 1) ++ [62, 61] ++ nbI n) := Lib.hid rfl
  have z0 := bs_size (nmW ((j : Int) + 1))
  have z1 := bs_size (nbI n)
  have a0 : bs (nmW ((j : Int) + 1)) ++ (⟨#[62, 61]⟩ : ByteArray) = bs (nmW ((j : Int) + 1) ++ [62, 61]) := by rw [lit_bs15, append_bs]
  have z2 : (bs (nmW ((j : Int) + 1) ++ [62, 61])).size = (nmW ((j : Int) + 1)).length + 2 := by rw [bs_size, List.length_append]; rfl
  have a1 : bs (nmW ((j : Int) + 1) ++ [62, 61]) ++ bs (nbI n) = bs (nmW ((j : Int) + 1) ++ [62, 61] ++ nbI n) := append_bs _ _
  have hm : ¬ (9223372036854775807 < (nmW ((j : Int) + 1)).length + 2) := by omega
  have hm2 : ¬ (9223372036854775807 < (nmW ((j : Int) + 1)).length + 2 + (nbI n).length) := by omega
  generalize nmW ((j : Int) + 1) ++ [62, 61] ++ nbI n = S2 at *
  generalize nmW ((j : Int) + 1) ++ [62, 61] = S1 at *
  generalize nbI n = N at *
  generalize nmW ((j : Int) + 1) = T at *
  replace hT := Lib.hid hT
  clear n0 n1
  replace hK := Lib.hid hK
  replace hI := Lib.hid hI
  go_enter Tryz.func29, Tryz.ntmps29
  go_wp2_with fail
  refine (HI.out _).mono ?_
  rintro e w1 ⟨rfl, rfl⟩
  go_wp2_with fail
  refine (HN.out _ (kx_keep hK ((Below.refl _ w).alloc (Nat.le_refl _) _))).mono ?_
  rintro e w2 ⟨rfl, hb2⟩
  replace hb2 := Lib.hid hb2
  go_wp2
  go_ret
  exact ⟨by rw [E.out]; try rfl, ((Below.refl _ w).alloc (Nat.le_refl _) _).trans (hb2.out.mono (by simp))⟩
set_option maxHeartbeats 1600000 in
set_option maxRecDepth 100000 in
theorem pDayWord_in3 (j : Nat) (hj : j < 7) (n : Int) (n0 : -9223372036854775808 ≤ n) (n1 : n ≤ 9223372036854775807) (w : World) (hK : KX w) : Calls Tryz.prog 29 #[.agg #[.int .i64 3, .int .i64 n, .int .i64 ((j : Int) + 1)]] w fun e w' => e = .returned (.string (bs (dwL 3 n ((j : Int) + 1)))) ∧ Below w.heap.size w w' := by
  have hI : inI ((j : Int) + 1) 1 7 = true := (inI_iff _ _ _).2 ⟨by omega, by omega⟩
  have hT : nmW ((j : Int) + 1) = dnT.getD j [] := by
    unfold nmW
    rw [if_pos (by omega)]
    exact (dn_wkS ⟨j, hj⟩).symm
  have hc := (strsAt_keep hK.dr ((Below.refl _ w).alloc (Nat.le_refl _) (.cells #[.int .i64 3, .int .i64 n, .int .i64 ((j : Int) + 1)] 39)) _ gDN15).1 j hj
  rw [← hT] at hc
  have hw : IntKind.i64.wrap ((j : Int) + 1 - 1) = (j : Int) := by rw [wrap_small _ (by omega) (by omega)]; omega
  have hj0 : (0 : Int) ≤ (j : Int) ∧ (j : Int) < 7 := by omega
  have HI := pWithin15_p ((j : Int) + 1) 1 7
  rw [hI] at HI
  replace HI := Lib.hid HI
  have hl := nmW_len ((j : Int) + 1)
  have HN := Lib.hid (pItoa_any n n0 n1)
  have hn := nbI_len21 n0 n1
  have E : Hid (dwL 3 n ((j : Int) + 1) = nmW ((j : Int) + 1) ++ [60, 61] ++ nbI n) := Lib.hid rfl
  have z0 := bs_size (nmW ((j : Int) + 1))
  have z1 := bs_size (nbI n)
  have a0 : bs (nmW ((j : Int) + 1)) ++ (⟨#[60, 61]⟩ : ByteArray) = bs (nmW ((j : Int) + 1) ++ [60, 61]) := by rw [lit_bs15, append_bs]
  have z2 : (bs (nmW ((j : Int) + 1) ++ [60, 61])).size = (nmW ((j : Int) + 1)).length + 2 := by rw [bs_size, List.length_append]; rfl
  have a1 : bs (nmW ((j : Int) + 1) ++ [60, 61]) ++ bs (nbI n) = bs (nmW ((j : Int) + 1) ++ [60, 61] ++ nbI n) := append_bs _ _
  have hm : ¬ (9223372036854775807 < (nmW ((j : Int) + 1)).length + 2) := by omega
  have hm2 : ¬ (9223372036854775807 < (nmW ((j : Int) + 1)).length + 2 + (nbI n).length) := by omega
  generalize nmW ((j : Int) + 1) ++ [60, 61] ++ nbI n = S2 at *
  generalize nmW ((j : Int) + 1) ++ [60, 61] = S1 at *
  generalize nbI n = N at *
  generalize nmW ((j : Int) + 1) = T at *
  replace hT := Lib.hid hT
  clear n0 n1
  replace hK := Lib.hid hK
  replace hI := Lib.hid hI
  go_enter Tryz.func29, Tryz.ntmps29
  go_wp2_with fail
  refine (HI.out _).mono ?_
  rintro e w1 ⟨rfl, rfl⟩
  go_wp2_with fail
  refine (HN.out _ (kx_keep hK ((Below.refl _ w).alloc (Nat.le_refl _) _))).mono ?_
  rintro e w2 ⟨rfl, hb2⟩
  replace hb2 := Lib.hid hb2
  go_wp2
  go_ret
  exact ⟨by rw [E.out]; try rfl, ((Below.refl _ w).alloc (Nat.le_refl _) _).trans (hb2.out.mono (by simp))⟩
set_option maxHeartbeats 1600000 in
set_option maxRecDepth 100000 in
theorem pDayWord_in4 (j : Nat) (hj : j < 7) (k : Int) (h0 : k ≠ 0) (h1 : k ≠ 1) (h2 : k ≠ 2) (h3 : k ≠ 3) (n : Int) (n0 : -9223372036854775808 ≤ n) (n1 : n ≤ 9223372036854775807) (w : World) (hK : KX w) : Calls Tryz.prog 29 #[.agg #[.int .i64 k, .int .i64 n, .int .i64 ((j : Int) + 1)]] w fun e w' => e = .returned (.string (bs (dwL k n ((j : Int) + 1)))) ∧ Below w.heap.size w w' := by
  have hI : inI ((j : Int) + 1) 1 7 = true := (inI_iff _ _ _).2 ⟨by omega, by omega⟩
  have hT : nmW ((j : Int) + 1) = dnT.getD j [] := by
    unfold nmW
    rw [if_pos (by omega)]
    exact (dn_wkS ⟨j, hj⟩).symm
  have hc := (strsAt_keep hK.dr ((Below.refl _ w).alloc (Nat.le_refl _) (.cells #[.int .i64 k, .int .i64 n, .int .i64 ((j : Int) + 1)] 39)) _ gDN15).1 j hj
  rw [← hT] at hc
  have hw : IntKind.i64.wrap ((j : Int) + 1 - 1) = (j : Int) := by rw [wrap_small _ (by omega) (by omega)]; omega
  have hj0 : (0 : Int) ≤ (j : Int) ∧ (j : Int) < 7 := by omega
  have HI := pWithin15_p ((j : Int) + 1) 1 7
  rw [hI] at HI
  replace HI := Lib.hid HI
  have hl := nmW_len ((j : Int) + 1)
  have E : Hid (dwL k n ((j : Int) + 1) = []) := Lib.hid (by unfold dwL; rw [if_neg h0, if_neg h1, if_neg h2, if_neg h3])
  have q0 : (k == 0) = false := beq_false_of_ne h0
  have q1 : (k == 1) = false := beq_false_of_ne h1
  have q2 : (k == 2) = false := beq_false_of_ne h2
  have q3 : (k == 3) = false := beq_false_of_ne h3
  clear h0 h1 h2 h3
  generalize nmW ((j : Int) + 1) = T at *
  replace hT := Lib.hid hT
  clear n0 n1
  replace hK := Lib.hid hK
  replace hI := Lib.hid hI
  go_enter Tryz.func29, Tryz.ntmps29
  go_wp2_with fail
  refine (HI.out _).mono ?_
  rintro e w1 ⟨rfl, rfl⟩
  go_wp2
  go_ret
  exact ⟨by rw [E.out, bs_empty]; try rfl, (Below.refl _ w).alloc (Nat.le_refl _) _⟩
set_option maxHeartbeats 1600000 in
set_option maxRecDepth 100000 in
theorem pDayWord_out0 (x : Int) (hx : ¬ (1 ≤ x ∧ x ≤ 7)) (n : Int) (n0 : -9223372036854775808 ≤ n) (n1 : n ≤ 9223372036854775807) (w : World) (hK : KX w) : Calls Tryz.prog 29 #[.agg #[.int .i64 0, .int .i64 n, .int .i64 x]] w fun e w' => e = .returned (.string (bs (dwL 0 n x))) ∧ Below w.heap.size w w' := by
  have hI : inI x 1 7 = false := inI_no hx
  have hT : nmW x = [] := if_neg hx
  have HI := pWithin15_p x 1 7
  rw [hI] at HI
  replace HI := Lib.hid HI
  have hl := nmW_len x
  have HN := Lib.hid (pItoa_any n n0 n1)
  have hn := nbI_len21 n0 n1
  have E : Hid (dwL 0 n x = nbI n) := Lib.hid rfl
  generalize nbI n = N at *
  clear n0 n1
  replace hK := Lib.hid hK
  replace hI := Lib.hid hI
  go_enter Tryz.func29, Tryz.ntmps29
  go_wp2_with fail
  refine (HI.out _).mono ?_
  rintro e w1 ⟨rfl, rfl⟩
  go_wp2_with fail
  refine (HN.out _ (kx_keep hK ((Below.refl _ w).alloc (Nat.le_refl _) _))).mono ?_
  rintro e w2 ⟨rfl, hb2⟩
  replace hb2 := Lib.hid hb2
  go_wp2
  go_ret
  exact ⟨by rw [E.out]; try rfl, ((Below.refl _ w).alloc (Nat.le_refl _) _).trans (hb2.out.mono (by simp))⟩
set_option maxHeartbeats 1600000 in
set_option maxRecDepth 100000 in
theorem pDayWord_out1 (x : Int) (hx : ¬ (1 ≤ x ∧ x ≤ 7)) (n : Int) (n0 : -9223372036854775808 ≤ n) (n1 : n ≤ 9223372036854775807) (w : World) (hK : KX w) : Calls Tryz.prog 29 #[.agg #[.int .i64 1, .int .i64 n, .int .i64 x]] w fun e w' => e = .returned (.string (bs (dwL 1 n x))) ∧ Below w.heap.size w w' := by
  have hI : inI x 1 7 = false := inI_no hx
  have hT : nmW x = [] := if_neg hx
  have HI := pWithin15_p x 1 7
  rw [hI] at HI
  replace HI := Lib.hid HI
  have hl := nmW_len x
  have E : Hid (dwL 1 n x = lastL ++ nmW x) := Lib.hid rfl
  have z0 := bs_size (nmW x)
  have a0 : (⟨#[108, 97, 115, 116, 45]⟩ : ByteArray) ++ bs (nmW x) = bs (lastL ++ nmW x) := by rw [lit_bs15, append_bs]; rfl
  have hm : ¬ (9223372036854775807 < 5 + (nmW x).length) := by omega
  generalize lastL ++ nmW x = S1 at *
  rw [hT] at *
  rw [bs_empty] at *
  simp only [List.length_nil] at *
  clear n0 n1
  replace hK := Lib.hid hK
  replace hI := Lib.hid hI
  go_enter Tryz.func29, Tryz.ntmps29
  go_wp2_with fail
  refine (HI.out _).mono ?_
  rintro e w1 ⟨rfl, rfl⟩
  go_wp2
  go_ret
  exact ⟨by rw [E.out]; try rfl, (Below.refl _ w).alloc (Nat.le_refl _) _⟩
set_option maxHeartbeats 1600000 in
set_option maxRecDepth 100000 in
theorem pDayWord_out2 (x : Int) (hx : ¬ (1 ≤ x ∧ x ≤ 7)) (n : Int) (n0 : -9223372036854775808 ≤ n) (n1 : n ≤ 9223372036854775807) (w : World) (hK : KX w) : Calls Tryz.prog 29 #[.agg #[.int .i64 2, .int .i64 n, .int .i64 x]] w fun e w' => e = .returned (.string (bs (dwL 2 n x))) ∧ Below w.heap.size w w' := by
  have hI : inI x 1 7 = false := inI_no hx
  have hT : nmW x = [] := if_neg hx
  have HI := pWithin15_p x 1 7
  rw [hI] at HI
  replace HI := Lib.hid HI
  have hl := nmW_len x
  have HN := Lib.hid (pItoa_any n n0 n1)
  have hn := nbI_len21 n0 n1
  have E : Hid (dwL 2 n x = nmW x ++ [62, 61] ++ nbI n) := Lib.hid rfl
  have z0 := bs_size (nmW x)
  have z1 := bs_size (nbI n)
  have a0 : bs (nmW x) ++ (⟨#[62, 61]⟩ : ByteArray) = bs (nmW x ++ [62, 61]) := by rw [lit_bs15, append_bs]
  have z2 : (bs (nmW x ++ [62, 61])).size = (nmW x).length + 2 := by rw [bs_size, List.length_append]; rfl
  have a1 : bs (nmW x ++ [62, 61]) ++ bs (nbI n) = bs (nmW x ++ [62, 61] ++ nbI n) := append_bs _ _
  have hm : ¬ (9223372036854775807 < (nmW x).length + 2) := by omega
  have hm2 : ¬ (9223372036854775807 < (nmW x).length + 2 + (nbI n).length) := by omega
  generalize nmW x ++ [62, 61] ++ nbI n = S2 at *
  generalize nmW x ++ [62, 61] = S1 at *
  generalize nbI n = N at *
  rw [hT] at *
  rw [bs_empty] at *
  simp only [List.length_nil] at *
  clear n0 n1
  replace hK := Lib.hid hK
  replace hI := Lib.hid hI
  go_enter Tryz.func29, Tryz.ntmps29
  go_wp2_with fail
  refine (HI.out _).mono ?_
  rintro e w1 ⟨rfl, rfl⟩
  go_wp2_with fail
  refine (HN.out _ (kx_keep hK ((Below.refl _ w).alloc (Nat.le_refl _) _))).mono ?_
  rintro e w2 ⟨rfl, hb2⟩
  replace hb2 := Lib.hid hb2
  go_wp2
  go_ret
  exact ⟨by rw [E.out]; try rfl, ((Below.refl _ w).alloc (Nat.le_refl _) _).trans (hb2.out.mono (by simp))⟩
set_option maxHeartbeats 1600000 in
set_option maxRecDepth 100000 in
theorem pDayWord_out3 (x : Int) (hx : ¬ (1 ≤ x ∧ x ≤ 7)) (n : Int) (n0 : -9223372036854775808 ≤ n) (n1 : n ≤ 9223372036854775807) (w : World) (hK : KX w) : Calls Tryz.prog 29 #[.agg #[.int .i64 3, .int .i64 n, .int .i64 x]] w fun e w' => e = .returned (.string (bs (dwL 3 n x))) ∧ Below w.heap.size w w' := by
  have hI : inI x 1 7 = false := inI_no hx
  have hT : nmW x = [] := if_neg hx
  have HI := pWithin15_p x 1 7
  rw [hI] at HI
  replace HI := Lib.hid HI
  have hl := nmW_len x
  have HN := Lib.hid (pItoa_any n n0 n1)
  have hn := nbI_len21 n0 n1
  have E : Hid (dwL 3 n x = nmW x ++ [60, 61] ++ nbI n) := Lib.hid rfl
  have z0 := bs_size (nmW x)
  have z1 := bs_size (nbI n)
  have a0 : bs (nmW x) ++ (⟨#[60, 61]⟩ : ByteArray) = bs (nmW x ++ [60, 61]) := by rw [lit_bs15, append_bs]
  have z2 : (bs (nmW x ++ [60, 61])).size = (nmW x).length + 2 := by rw [bs_size, List.length_append]; rfl
  have a1 : bs (nmW x ++ [60, 61]) ++ bs (nbI n) = bs (nmW x ++ [60, 61] ++ nbI n) := append_bs _ _
  have hm : ¬ (9223372036854775807 < (nmW x).length + 2) := by omega
  have hm2 : ¬ (9223372036854775807 < (nmW x).length + 2 + (nbI n).length) := by omega
  generalize nmW x ++ [60, 61] ++ nbI n = S2 at *
  generalize nmW x ++ [60, 61] = S1 at *
  generalize nbI n = N at *
  rw [hT] at *
  rw [bs_empty] at *
  simp only [List.length_nil] at *
  clear n0 n1
  replace hK := Lib.hid hK
  replace hI := Lib.hid hI
  go_enter Tryz.func29, Tryz.ntmps29
  go_wp2_with fail
  refine (HI.out _).mono ?_
  rintro e w1 ⟨rfl, rfl⟩
  go_wp2_with fail
  refine (HN.out _ (kx_keep hK ((Below.refl _ w).alloc (Nat.le_refl _) _))).mono ?_
  rintro e w2 ⟨rfl, hb2⟩
  replace hb2 := Lib.hid hb2
  go_wp2
  go_ret
  exact ⟨by rw [E.out]; try rfl, ((Below.refl _ w).alloc (Nat.le_refl _) _).trans (hb2.out.mono (by simp))⟩
set_option maxHeartbeats 1600000 in
set_option maxRecDepth 100000 in
theorem pDayWord_out4 (x : Int) (hx : ¬ (1 ≤ x ∧ x ≤ 7)) (k : Int) (h0 : k ≠ 0) (h1 : k ≠ 1) (h2 : k ≠ 2) (h3 : k ≠ 3) (n : Int) (n0 : -9223372036854775808 ≤ n) (n1 : n ≤ 9223372036854775807) (w : World) (hK : KX w) : Calls Tryz.prog 29 #[.agg #[.int .i64 k, .int .i64 n, .int .i64 x]] w fun e w' => e = .returned (.string (bs (dwL k n x))) ∧ Below w.heap.size w w' := by
  have hI : inI x 1 7 = false := inI_no hx
  have hT : nmW x = [] := if_neg hx
  have HI := pWithin15_p x 1 7
  rw [hI] at HI
  replace HI := Lib.hid HI
  have hl := nmW_len x
  have E : Hid (dwL k n x = []) := Lib.hid (by unfold dwL; rw [if_neg h0, if_neg h1, if_neg h2, if_neg h3])
  have q0 : (k == 0) = false := beq_false_of_ne h0
  have q1 : (k == 1) = false := beq_false_of_ne h1
  have q2 : (k == 2) = false := beq_false_of_ne h2
  have q3 : (k == 3) = false := beq_false_of_ne h3
  clear h0 h1 h2 h3
  clear n0 n1
  replace hK := Lib.hid hK
  replace hI := Lib.hid hI
  go_enter Tryz.func29, Tryz.ntmps29
  go_wp2_with fail
  refine (HI.out _).mono ?_
  rintro e w1 ⟨rfl, rfl⟩
  go_wp2
  go_ret
  exact ⟨by rw [E.out, bs_empty]; try rfl, (Below.refl _ w).alloc (Nat.le_refl _) _⟩
theorem pDayWord_any (k n x : Int) (n0 : -9223372036854775808 ≤ n) (n1 : n ≤ 9223372036854775807) (w : World) (hK : KX w) : Calls Tryz.prog 29 #[.agg #[.int .i64 k, .int .i64 n, .int .i64 x]] w fun e w' => e = .returned (.string (bs (dwL k n x))) ∧ Below w.heap.size w w' := by
  by_cases hx : 1 ≤ x ∧ x ≤ 7
  · obtain ⟨j, hj, rfl⟩ : ∃ j : Nat, j < 7 ∧ x = (j : Int) + 1 := ⟨(x - 1).toNat, by omega, by omega⟩
    by_cases h0 : k = 0
    · subst h0; exact pDayWord_in0 j hj n n0 n1 w hK
    by_cases h1 : k = 1
    · subst h1; exact pDayWord_in1 j hj n n0 n1 w hK
    by_cases h2 : k = 2
    · subst h2; exact pDayWord_in2 j hj n n0 n1 w hK
    by_cases h3 : k = 3
    · subst h3; exact pDayWord_in3 j hj n n0 n1 w hK
    exact pDayWord_in4 j hj k h0 h1 h2 h3 n n0 n1 w hK
  · by_cases h0 : k = 0
    · subst h0; exact pDayWord_out0 x hx n n0 n1 w hK
    by_cases h1 : k = 1
    · subst h1; exact pDayWord_out1 x hx n n0 n1 w hK
    by_cases h2 : k = 2
    · subst h2; exact pDayWord_out2 x hx n n0 n1 w hK
    by_cases h3 : k = 3
    · subst h3; exact pDayWord_out3 x hx n n0 n1 w hK
    exact pDayWord_out4 x hx k h0 h1 h2 h3 n n0 n1 w hK
end Go.Proofs.YteinjdmkmfeniaaGreatDoor
