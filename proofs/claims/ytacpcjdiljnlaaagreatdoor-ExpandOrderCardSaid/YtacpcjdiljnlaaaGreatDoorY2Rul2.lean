/- Several texts in one: RulTb, RulV, RulZ, RulW, RulX, RulY. -/
import Derived.Test.YtacpcjdiljnlaaaGreatDoorY2Sm
import Derived.Test.YtacpcjdiljnlaaaGreatDoorY2Lex1
import Derived.Test.YtacpcjdiljnlaaaGreatDoorY2Rul1
import Derived.Test.YtacpcjdiljnlaaaGreatDoorY2Kx1
import Derived.Deep.RegionLaw
import Derived.Deep.AppendLies
namespace Go.Proofs.YtacpcjdiljnlaaaGreatDoor
set_option linter.unusedVariables false
set_option linter.unusedSimpArgs false
open Go.ChangeShapes Go.WideShapes Go.ChangeAt Go.RowKit
structure LnW (w V : World) (zb lb : Nat) (cs : Array Value) : Prop where
  z : V.heap[zb]? = some (.cells #[.int .i64 0, .int .i64 0, .int .i64 0, .int .i64 0, .int .i64 0, .int .i64 0, .int .i64 0, .int .i64 0, .int .i64 0, .int .i64 0, .int .i64 0, .bool false, .string ⟨#[]⟩] 49 (0, 0))
  l : V.heap[lb]? = some (.cells cs 49 (0, 0))
  bel : Below w.heap.size w V
  hz : w.heap.size ≤ zb
  hl : w.heap.size ≤ lb
  ne : zb ≠ lb
section
variable {w V V' : World} {zb lb : Nat} {cs : Array Value}
theorem LnW.call (h : LnW w V zb lb cs) (hb : Below V.heap.size V V') : LnW w V' zb lb cs :=
  ⟨(hb.block zb (Array.getElem?_eq_some_iff.1 h.z).1).trans h.z, (hb.block lb (Array.getElem?_eq_some_iff.1 h.l).1).trans h.l, h.bel.trans (hb.mono h.bel.size), h.hz, h.hl, h.ne⟩
theorem LnW.drew (h : LnW w V zb lb cs) : LnW w V.drew zb lb cs := ⟨h.z, h.l, h.bel.drew, h.hz, h.hl, h.ne⟩
theorem LnW.set (h : LnW w V zb lb cs) (j : Nat) (v : Value) {cs' : Array Value} (e : cs.setIfInBounds j v = cs') : LnW w (V.setCell ⟨lb, j, none⟩ v) zb lb cs' := by
  subst e
  exact ⟨row_other1 h.ne h.z j v, row_set1 h.l j v, h.bel.setCell (by exact h.hl) _, h.hz, h.hl, h.ne⟩
theorem LnW.cell (h : LnW w V zb lb cs) (j : Nat) {u : Value} (hj : cs[j]? = some u) : V.cell? ⟨lb, j, none⟩ = some u := by rw [Lib.cell_of_heap h.l]; exact hj
theorem LnW.froz (h : LnW w V zb lb cs) (j : Nat) : V.frozen? ⟨lb, j, none⟩ = false := Lib.frozen_of_heap h.l j
theorem LnW.old (h : LnW w V zb lb cs) {b k : Nat} {u : Value} (hb : b < w.heap.size) (hk : w.cell? ⟨b, k, none⟩ = some u) : V.cell? ⟨b, k, none⟩ = some u := (h.bel.cell (p := ⟨b, k, none⟩) hb).trans hk
end
theorem ten_of {ws : List (List UInt8)} (h : ws.length = 10) : ∃ a b c d e f g i j k, ws = [a, b, c, d, e, f, g, i, j, k] := by
  match ws, h with
  | [a, b, c, d, e, f, g, i, j, k], _ => exact ⟨a, b, c, d, e, f, g, i, j, k, rfl⟩
set_option maxHeartbeats 12800000 in
set_option maxRecDepth 100000 in
theorem rLineRule_any (ws : List (List UInt8)) (hw : ∀ x ∈ ws, x.length ≤ 100000) (A : Option Addr) (c : Nat) (hc : ws.length ≤ c) (w : World) (hR : Rd w A (ws.map strV)) :
    Calls Tryz.prog 92 #[.slice A ws.length c] w fun e w' => ∃ l, e = .returned (.tuple #[linA l, .int .i64 (ruE ws)]) ∧ (ruE ws = 0 → l = ruL ws) ∧ Below w.heap.size w w' := by
  by_cases h10 : ws.length = 10
  · obtain ⟨x0, x1, x2, x3, x4, x5, x6, x7, x8, x9, rfl⟩ := ten_of h10
    obtain ⟨b, o, rfl, hb, hcell⟩ := hR.wrd (k := 0) (by rw [h10]; decide)
    have k1 : w.cell? ⟨b, o + 1, none⟩ = some (.string (bs x1)) := hcell 1 (by rw [h10]; decide)
    have k2 : w.cell? ⟨b, o + 2, none⟩ = some (.string (bs x2)) := hcell 2 (by rw [h10]; decide)
    have k3 : w.cell? ⟨b, o + 3, none⟩ = some (.string (bs x3)) := hcell 3 (by rw [h10]; decide)
    have k4 : w.cell? ⟨b, o + 4, none⟩ = some (.string (bs x4)) := hcell 4 (by rw [h10]; decide)
    have k5 : w.cell? ⟨b, o + 5, none⟩ = some (.string (bs x5)) := hcell 5 (by rw [h10]; decide)
    have k6 : w.cell? ⟨b, o + 6, none⟩ = some (.string (bs x6)) := hcell 6 (by rw [h10]; decide)
    have k7 : w.cell? ⟨b, o + 7, none⟩ = some (.string (bs x7)) := hcell 7 (by rw [h10]; decide)
    have k8 : w.cell? ⟨b, o + 8, none⟩ = some (.string (bs x8)) := hcell 8 (by rw [h10]; decide)
    have k9 : w.cell? ⟨b, o + 9, none⟩ = some (.string (bs x9)) := hcell 9 (by rw [h10]; decide)
    have m1 := hw x1 (by simp)
    have m2 := hw x2 (by simp)
    have m4 := hw x4 (by simp)
    have m5 := hw x5 (by simp)
    have m6 := hw x6 (by simp)
    have m7 := hw x7 (by simp)
    have m9 := hw x9 (by simp)
    have hc10 : 10 ≤ c := hc
    have HY := Lib.hid (rYears_any x1 x2 m1 m2)
    have HM := Lib.hid (rMonthOf_any x3)
    have HD := Lib.hid (rDay_any x4 m4)
    have HI := Lib.hid (rTime_any x5 m5)
    have HO := Lib.hid (rOffset_any x6 m6)
    have HT : Hid (∀ W, Below w.heap.size w W → Calls Tryz.prog 125 #[.slice (some ⟨b, o + 7, none⟩) 3 (c - 7)] W fun e w' => e = .returned (.tuple #[.agg #[.int .i64 (triR x7 x8 x9).1, .bool (triR x7 x8 x9).2.1, .string (bs (triR x7 x8 x9).2.2.1)], .int .i64 (triR x7 x8 x9).2.2.2]) ∧ Below W.heap.size W w') := Lib.hid (fun W hW => by
      have g : ∀ j u, w.cell? ⟨b, j, none⟩ = some u → W.cell? ⟨b, j, none⟩ = some u := fun j u hu => (hW.cell (p := ⟨b, j, none⟩) hb).trans hu
      exact rTriple_any x7 x8 x9 m7 m9 _ 3 (c - 7) W b (o + 7) rfl (Nat.le_refl _) (by have := hW.size; omega) (g _ _ k7) (g _ _ k8) (g _ _ k9))
    have hE : Hid (ruE [x0, x1, x2, x3, x4, x5, x6, x7, x8, x9] = if (yrsR x1 x2).2.2 ≠ 0 then (yrsR x1 x2).2.2 else if monI x3 = 0 then 2 else if (dayR x4).2.2.2 ≠ 0 then (dayR x4).2.2.2 else if timE x5 ≠ 0 then timE x5 else if offE x6 ≠ 0 then offE x6 else if (triR x7 x8 x9).2.2.2 ≠ 0 then (triR x7 x8 x9).2.2.2 else if (yrsR x1 x2).2.1 < (yrsR x1 x2).1 then 5 else 0) := Lib.hid (by unfold ruE; rw [if_neg (by simp)]; rfl)
    have hL : Hid (ruL [x0, x1, x2, x3, x4, x5, x6, x7, x8, x9] = ⟨2, 0, (yrsR x1 x2).1, (yrsR x1 x2).2.1, monI x3, (dayR x4).1, (dayR x4).2.1, (dayR x4).2.2.1, timV x5, offV x6, (triR x7 x8 x9).1, (triR x7 x8 x9).2.1, (triR x7 x8 x9).2.2.1⟩) := Lib.hid rfl
    clear hcell hR hw m1 m2 m4 m5 m6 m7 m9
    generalize yrsR x1 x2 = yy at *
    generalize dayR x4 = dd at *
    generalize triR x7 x8 x9 = tt at *
    obtain ⟨yf, yt, ye⟩ := yy
    obtain ⟨d0, d1, d2, de⟩ := dd
    obtain ⟨t0, t1, t2, te⟩ := tt
    simp only at HY HD HT hE hL
    generalize monI x3 = mo at *
    generalize timV x5 = tv at *
    generalize timE x5 = ie at *
    generalize offV x6 = ov at *
    generalize offE x6 = oe at *
    generalize ruE [x0, x1, x2, x3, x4, x5, x6, x7, x8, x9] = R at *
    generalize ruL [x0, x1, x2, x3, x4, x5, x6, x7, x8, x9] = L0 at *
    go_enter Tryz.func92, Tryz.ntmps92
    refine wp_shut ?_
    go_wp2_with fail
    have N0 : LnW w ((w.alloc (Obj.cells #[Value.int .i64 0, Value.int .i64 0, Value.int .i64 0, Value.int .i64 0, Value.int .i64 0, Value.int .i64 0, Value.int .i64 0, Value.int .i64 0, Value.int .i64 0, Value.int .i64 0, Value.int .i64 0, Value.bool false, Value.string ⟨#[]⟩] 49)).alloc (Obj.cells #[Value.int .i64 2, Value.int .i64 0, Value.int .i64 0, Value.int .i64 0, Value.int .i64 0, Value.int .i64 0, Value.int .i64 0, Value.int .i64 0, Value.int .i64 0, Value.int .i64 0, Value.int .i64 0, Value.bool false, Value.string ⟨#[]⟩] 49)) w.heap.size (w.heap.size + 1) #[.int .i64 2, .int .i64 0, .int .i64 0, .int .i64 0, .int .i64 0, .int .i64 0, .int .i64 0, .int .i64 0, .int .i64 0, .int .i64 0, .int .i64 0, .bool false, .string ⟨#[]⟩] := by
      obtain ⟨r1, r2⟩ := rows_two w (Obj.cells #[.int .i64 0, .int .i64 0, .int .i64 0, .int .i64 0, .int .i64 0, .int .i64 0, .int .i64 0, .int .i64 0, .int .i64 0, .int .i64 0, .int .i64 0, .bool false, .string ⟨#[]⟩] 49) (Obj.cells #[.int .i64 2, .int .i64 0, .int .i64 0, .int .i64 0, .int .i64 0, .int .i64 0, .int .i64 0, .int .i64 0, .int .i64 0, .int .i64 0, .int .i64 0, .bool false, .string ⟨#[]⟩] 49)
      exact ⟨r1, r2, ((Below.refl _ w).alloc (Nat.le_refl _) _).alloc (by simp) _, Nat.le_refl _, by omega, by omega⟩
    generalize ((w.alloc (Obj.cells #[Value.int .i64 0, Value.int .i64 0, Value.int .i64 0, Value.int .i64 0, Value.int .i64 0, Value.int .i64 0, Value.int .i64 0, Value.int .i64 0, Value.int .i64 0, Value.int .i64 0, Value.int .i64 0, Value.bool false, Value.string ⟨#[]⟩] 49)).alloc (Obj.cells #[Value.int .i64 2, Value.int .i64 0, Value.int .i64 0, Value.int .i64 0, Value.int .i64 0, Value.int .i64 0, Value.int .i64 0, Value.int .i64 0, Value.int .i64 0, Value.int .i64 0, Value.int .i64 0, Value.bool false, Value.string ⟨#[]⟩] 49)) = V0 at *
    go_cut [5] (fun s5 wx => s5 = .int .i64 ye ∧ LnW w wx w.heap.size (w.heap.size + 1) #[.int .i64 2, .int .i64 0, .int .i64 yf, .int .i64 yt, .int .i64 0, .int .i64 0, .int .i64 0, .int .i64 0, .int .i64 0, .int .i64 0, .int .i64 0, .bool false, .string ⟨#[]⟩])
    case first =>
      have cN0_2 := N0.cell 2 (u := .int .i64 0) rfl
      have cN0_3 := N0.cell 3 (u := .int .i64 0) rfl
      have fN0_2 := N0.froz 2
      have fN0_3 := N0.froz 3
      have wN0_1 := N0.old hb k1
      have wN0_2 := N0.old hb k2
      go_region_with (go_at_call 126; refine (HY.out _).mono ?_; rintro e w1 ⟨rfl, rfl⟩)
      all_goals (go_wp2_with fail; go_meet; refine ⟨rfl, ?_⟩)
      all_goals first | exact (N0.drew.set 2 _ rfl).set 3 _ rfl | exact (N0.drew.set 3 _ rfl).set 2 _ rfl
    case rest =>
      obtain ⟨rfl, N1⟩ := hcut
      obtain ⟨V1, rfl⟩ : ∃ V, V = wc := ⟨_, rfl⟩
      clear N0
      by_cases h1 : ¬ ye ≠ 0
      · have f1 : (ye != 0) = false := by simpa using h1
        have cN1_4 := N1.cell 4 (u := .int .i64 0) rfl
        have fN1_4 := N1.froz 4
        have wN1_3 := N1.old hb k3
        go_wp2_with fail
        refine (HM.out _).mono ?_
        rintro e V2 ⟨rfl, hb2⟩
        have N2 := N1.call hb2
        clear hb2 N1 cN1_4 fN1_4 wN1_3
        have cN2_4 := N2.cell 4 (u := .int .i64 0) rfl
        have fN2_4 := N2.froz 4
        have N3 := N2.set 4 (.int .i64 mo) (cs' := #[.int .i64 2, .int .i64 0, .int .i64 yf, .int .i64 yt, .int .i64 mo, .int .i64 0, .int .i64 0, .int .i64 0, .int .i64 0, .int .i64 0, .int .i64 0, .bool false, .string ⟨#[]⟩]) rfl
        have c3_4 := N3.cell 4 (u := .int .i64 mo) rfl
        have w3_4 := N3.old hb k4
        by_cases h2 : ¬ mo = 0
        · have f2 : (mo == 0) = false := beq_false_of_ne h2
          go_wp2_with fail
          refine (HD.out _).mono ?_
          rintro e V4 ⟨rfl, hb4⟩
          have N4 := N3.call hb4
          clear hb4 N3 c3_4 w3_4 N2 cN2_4 fN2_4
          have cN4_5 := N4.cell 5 (u := .int .i64 0) rfl
          have cN4_6 := N4.cell 6 (u := .int .i64 0) rfl
          have cN4_7 := N4.cell 7 (u := .int .i64 0) rfl
          have fN4_5 := N4.froz 5
          have fN4_6 := N4.froz 6
          have fN4_7 := N4.froz 7
          have N5 := ((N4.set 5 (.int .i64 d0) rfl).set 6 (.int .i64 d1) rfl).set 7 (.int .i64 d2) (cs' := #[.int .i64 2, .int .i64 0, .int .i64 yf, .int .i64 yt, .int .i64 mo, .int .i64 d0, .int .i64 d1, .int .i64 d2, .int .i64 0, .int .i64 0, .int .i64 0, .bool false, .string ⟨#[]⟩]) rfl
          have w5_5 := N5.old hb k5
          have w5_6 := N5.old hb k6
          by_cases h3 : ¬ de ≠ 0
          · have f3 : (de != 0) = false := by simpa using h3
            have cN5_8 := N5.cell 8 (u := .int .i64 0) rfl
            have fN5_8 := N5.froz 8
            have N6 := N5.set 8 (.int .i64 tv) (cs' := #[.int .i64 2, .int .i64 0, .int .i64 yf, .int .i64 yt, .int .i64 mo, .int .i64 d0, .int .i64 d1, .int .i64 d2, .int .i64 tv, .int .i64 0, .int .i64 0, .bool false, .string ⟨#[]⟩]) rfl
            have w6_6 := N6.old hb k6
            go_wp2_with fail
            refine (HI.out _).mono ?_
            rintro e V6 ⟨rfl, rfl⟩
            by_cases h4 : ¬ ie ≠ 0
            · have f4 : (ie != 0) = false := by simpa using h4
              have cN6_9 := N6.cell 9 (u := .int .i64 0) rfl
              have fN6_9 := N6.froz 9
              have N7 := N6.set 9 (.int .i64 ov) (cs' := #[.int .i64 2, .int .i64 0, .int .i64 yf, .int .i64 yt, .int .i64 mo, .int .i64 d0, .int .i64 d1, .int .i64 d2, .int .i64 tv, .int .i64 ov, .int .i64 0, .bool false, .string ⟨#[]⟩]) rfl
              go_wp2_with fail
              refine (HO.out _).mono ?_
              rintro e V7 ⟨rfl, rfl⟩
              by_cases h5 : ¬ oe ≠ 0
              · have f5 : (oe != 0) = false := by simpa using h5
                go_wp2_with fail
                refine (HT.out _ N7.bel).mono ?_
                rintro e V8 ⟨rfl, hb8⟩
                have N8 := N7.call hb8
                clear hb8 N7 N6 N5 N4
                have cN8_10 := N8.cell 10 (u := .int .i64 0) rfl
                have cN8_11 := N8.cell 11 (u := .bool false) rfl
                have cN8_12 := N8.cell 12 (u := .string ⟨#[]⟩) rfl
                have fN8_10 := N8.froz 10
                have fN8_11 := N8.froz 11
                have fN8_12 := N8.froz 12
                have N9 := ((N8.set 10 (.int .i64 t0) rfl).set 11 (.bool t1) rfl).set 12 (.string (bs t2)) (cs' := #[.int .i64 2, .int .i64 0, .int .i64 yf, .int .i64 yt, .int .i64 mo, .int .i64 d0, .int .i64 d1, .int .i64 d2, .int .i64 tv, .int .i64 ov, .int .i64 t0, .bool t1, .string (bs t2)]) rfl
                by_cases h6 : ¬ te ≠ 0
                · have f6 : (te != 0) = false := by simpa using h6
                  have c9_2 := N9.cell 2 (u := .int .i64 yf) rfl
                  have c9_3 := N9.cell 3 (u := .int .i64 yt) rfl
                  by_cases h7 : ¬ yt < yf
                  · have f7 : ¬ yf > yt := h7
                    clear HY HM HD HI HO HT
                    go_upto_region 25 with fail
                    generalize (((V8.setCell ⟨(w.heap.size + 1), 10, none⟩ (.int .i64 t0)).setCell ⟨(w.heap.size + 1), 11, none⟩ (.bool t1)).setCell ⟨(w.heap.size + 1), 12, none⟩ (.string (bs t2))) = V99 at *
                    have q_0 := N9.cell 0 (u := .int .i64 2) rfl
                    have q_1 := N9.cell 1 (u := .int .i64 0) rfl
                    have q_2 := N9.cell 2 (u := .int .i64 yf) rfl
                    have q_3 := N9.cell 3 (u := .int .i64 yt) rfl
                    have q_4 := N9.cell 4 (u := .int .i64 mo) rfl
                    have q_5 := N9.cell 5 (u := .int .i64 d0) rfl
                    have q_6 := N9.cell 6 (u := .int .i64 d1) rfl
                    have q_7 := N9.cell 7 (u := .int .i64 d2) rfl
                    have q_8 := N9.cell 8 (u := .int .i64 tv) rfl
                    have q_9 := N9.cell 9 (u := .int .i64 ov) rfl
                    have q_10 := N9.cell 10 (u := .int .i64 t0) rfl
                    have q_11 := N9.cell 11 (u := .bool t1) rfl
                    have q_12 := N9.cell 12 (u := .string (bs t2)) rfl
                    have hz := N9.z
                    have rr := setRow_heap V99 (w.heap.size) _ #[Value.int .i64 2, Value.int .i64 0, Value.int .i64 yf, Value.int .i64 yt, Value.int .i64 mo, Value.int .i64 d0, Value.int .i64 d1, Value.int .i64 d2, Value.int .i64 tv, Value.int .i64 ov, Value.int .i64 t0, Value.bool t1, Value.string (bs t2)] _ _ hz
                    obtain ⟨r_0, r_1, r_2, r_3, r_4, r_5, r_6, r_7, r_8, r_9, r_10, r_11, r_12⟩ := qv13 rr
                    have hbel := Lib.hid N9.bel
                    go_wp2_with (refine wpList_store_row (by rfl) 49 _ _ (by rfl) (w.heap.size) #[Value.int .i64 2, Value.int .i64 0, Value.int .i64 yf, Value.int .i64 yt, Value.int .i64 mo, Value.int .i64 d0, Value.int .i64 d1, Value.int .i64 d2, Value.int .i64 tv, Value.int .i64 ov, Value.int .i64 t0, Value.bool t1, Value.string (bs t2)] (by rfl) (by rfl) _ _ hz (by kernel_rfl) (by rfl) (by simp [Value.oneCell']) ?_)
                    refine shut_ret (v := .tuple #[.agg #[.int .i64 2, .int .i64 0, .int .i64 yf, .int .i64 yt, .int .i64 mo, .int .i64 d0, .int .i64 d1, .int .i64 d2, .int .i64 tv, .int .i64 ov, .int .i64 t0, .bool t1, .string (bs t2)], .int .i64 0]) (by simp [results, Tryz.results92, go_sem, r_0, r_1, r_2, r_3, r_4, r_5, r_6, r_7, r_8, r_9, r_10, r_11, r_12]) rfl ⟨⟨2, 0, yf, yt, mo, d0, d1, d2, tv, ov, t0, t1, t2⟩, by (rw [hE.out, if_neg h1, if_neg h2, if_neg h3, if_neg h4, if_neg h5, if_neg h6, if_neg (by omega)]; rfl), fun e => hL.out.symm, ?_⟩
                    exact keepRow hbel.out (Nat.le_refl _) _
                  · have f7 : yf > yt := by omega
                    clear HY HM HD HI HO HT
                    go_upto_region 24 with fail
                    generalize (((V8.setCell ⟨(w.heap.size + 1), 10, none⟩ (.int .i64 t0)).setCell ⟨(w.heap.size + 1), 11, none⟩ (.bool t1)).setCell ⟨(w.heap.size + 1), 12, none⟩ (.string (bs t2))) = V99 at *
                    have q_0 := N9.cell 0 (u := .int .i64 2) rfl
                    have q_1 := N9.cell 1 (u := .int .i64 0) rfl
                    have q_2 := N9.cell 2 (u := .int .i64 yf) rfl
                    have q_3 := N9.cell 3 (u := .int .i64 yt) rfl
                    have q_4 := N9.cell 4 (u := .int .i64 mo) rfl
                    have q_5 := N9.cell 5 (u := .int .i64 d0) rfl
                    have q_6 := N9.cell 6 (u := .int .i64 d1) rfl
                    have q_7 := N9.cell 7 (u := .int .i64 d2) rfl
                    have q_8 := N9.cell 8 (u := .int .i64 tv) rfl
                    have q_9 := N9.cell 9 (u := .int .i64 ov) rfl
                    have q_10 := N9.cell 10 (u := .int .i64 t0) rfl
                    have q_11 := N9.cell 11 (u := .bool t1) rfl
                    have q_12 := N9.cell 12 (u := .string (bs t2)) rfl
                    have hz := N9.z
                    have rr := setRow_heap V99 (w.heap.size) _ #[Value.int .i64 2, Value.int .i64 0, Value.int .i64 yf, Value.int .i64 yt, Value.int .i64 mo, Value.int .i64 d0, Value.int .i64 d1, Value.int .i64 d2, Value.int .i64 tv, Value.int .i64 ov, Value.int .i64 t0, Value.bool t1, Value.string (bs t2)] _ _ hz
                    obtain ⟨r_0, r_1, r_2, r_3, r_4, r_5, r_6, r_7, r_8, r_9, r_10, r_11, r_12⟩ := qv13 rr
                    have hbel := Lib.hid N9.bel
                    go_wp2_with (refine wpList_store_row (by rfl) 49 _ _ (by rfl) (w.heap.size) #[Value.int .i64 2, Value.int .i64 0, Value.int .i64 yf, Value.int .i64 yt, Value.int .i64 mo, Value.int .i64 d0, Value.int .i64 d1, Value.int .i64 d2, Value.int .i64 tv, Value.int .i64 ov, Value.int .i64 t0, Value.bool t1, Value.string (bs t2)] (by rfl) (by rfl) _ _ hz (by kernel_rfl) (by rfl) (by simp [Value.oneCell']) ?_)
                    refine shut_ret (v := .tuple #[.agg #[.int .i64 2, .int .i64 0, .int .i64 yf, .int .i64 yt, .int .i64 mo, .int .i64 d0, .int .i64 d1, .int .i64 d2, .int .i64 tv, .int .i64 ov, .int .i64 t0, .bool t1, .string (bs t2)], .int .i64 5]) (by simp [results, Tryz.results92, go_sem, r_0, r_1, r_2, r_3, r_4, r_5, r_6, r_7, r_8, r_9, r_10, r_11, r_12]) rfl ⟨⟨2, 0, yf, yt, mo, d0, d1, d2, tv, ov, t0, t1, t2⟩, by (rw [hE.out, if_neg h1, if_neg h2, if_neg h3, if_neg h4, if_neg h5, if_neg h6, if_pos (by omega)]; rfl), fun e => absurd e (by (rw [hE.out, if_neg h1, if_neg h2, if_neg h3, if_neg h4, if_neg h5, if_neg h6, if_pos (by omega)]); decide), ?_⟩
                    exact keepRow hbel.out (Nat.le_refl _) _
                · have f6 : (te != 0) = true := by simpa using h6
                  clear HY HM HD HI HO HT
                  go_upto_region 22 with fail
                  generalize (((V8.setCell ⟨(w.heap.size + 1), 10, none⟩ (.int .i64 t0)).setCell ⟨(w.heap.size + 1), 11, none⟩ (.bool t1)).setCell ⟨(w.heap.size + 1), 12, none⟩ (.string (bs t2))) = V99 at *
                  have q_0 := N9.cell 0 (u := .int .i64 2) rfl
                  have q_1 := N9.cell 1 (u := .int .i64 0) rfl
                  have q_2 := N9.cell 2 (u := .int .i64 yf) rfl
                  have q_3 := N9.cell 3 (u := .int .i64 yt) rfl
                  have q_4 := N9.cell 4 (u := .int .i64 mo) rfl
                  have q_5 := N9.cell 5 (u := .int .i64 d0) rfl
                  have q_6 := N9.cell 6 (u := .int .i64 d1) rfl
                  have q_7 := N9.cell 7 (u := .int .i64 d2) rfl
                  have q_8 := N9.cell 8 (u := .int .i64 tv) rfl
                  have q_9 := N9.cell 9 (u := .int .i64 ov) rfl
                  have q_10 := N9.cell 10 (u := .int .i64 t0) rfl
                  have q_11 := N9.cell 11 (u := .bool t1) rfl
                  have q_12 := N9.cell 12 (u := .string (bs t2)) rfl
                  have hz := N9.z
                  have rr := setRow_heap V99 (w.heap.size) _ #[Value.int .i64 2, Value.int .i64 0, Value.int .i64 yf, Value.int .i64 yt, Value.int .i64 mo, Value.int .i64 d0, Value.int .i64 d1, Value.int .i64 d2, Value.int .i64 tv, Value.int .i64 ov, Value.int .i64 t0, Value.bool t1, Value.string (bs t2)] _ _ hz
                  obtain ⟨r_0, r_1, r_2, r_3, r_4, r_5, r_6, r_7, r_8, r_9, r_10, r_11, r_12⟩ := qv13 rr
                  have hbel := Lib.hid N9.bel
                  go_wp2_with (refine wpList_store_row (by rfl) 49 _ _ (by rfl) (w.heap.size) #[Value.int .i64 2, Value.int .i64 0, Value.int .i64 yf, Value.int .i64 yt, Value.int .i64 mo, Value.int .i64 d0, Value.int .i64 d1, Value.int .i64 d2, Value.int .i64 tv, Value.int .i64 ov, Value.int .i64 t0, Value.bool t1, Value.string (bs t2)] (by rfl) (by rfl) _ _ hz (by kernel_rfl) (by rfl) (by simp [Value.oneCell']) ?_)
                  refine shut_ret (v := .tuple #[.agg #[.int .i64 2, .int .i64 0, .int .i64 yf, .int .i64 yt, .int .i64 mo, .int .i64 d0, .int .i64 d1, .int .i64 d2, .int .i64 tv, .int .i64 ov, .int .i64 t0, .bool t1, .string (bs t2)], .int .i64 te]) (by simp [results, Tryz.results92, go_sem, r_0, r_1, r_2, r_3, r_4, r_5, r_6, r_7, r_8, r_9, r_10, r_11, r_12]) rfl ⟨⟨2, 0, yf, yt, mo, d0, d1, d2, tv, ov, t0, t1, t2⟩, by (rw [hE.out, if_neg h1, if_neg h2, if_neg h3, if_neg h4, if_neg h5, if_pos (Classical.not_not.1 h6)]; rfl), fun e => absurd (((by rw [hE.out, if_neg h1, if_neg h2, if_neg h3, if_neg h4, if_neg h5, if_pos (Classical.not_not.1 h6)] : R = te)).symm.trans e) (Classical.not_not.1 h6), ?_⟩
                  exact keepRow hbel.out (Nat.le_refl _) _
              · have f5 : (oe != 0) = true := by simpa using h5
                clear HY HM HD HI HO HT
                go_upto_region 19 with fail
                generalize (((((V4.setCell ⟨(w.heap.size + 1), 5, none⟩ (.int .i64 d0)).setCell ⟨(w.heap.size + 1), 6, none⟩ (.int .i64 d1)).setCell ⟨(w.heap.size + 1), 7, none⟩ (.int .i64 d2)).setCell ⟨(w.heap.size + 1), 8, none⟩ (.int .i64 tv)).setCell ⟨(w.heap.size + 1), 9, none⟩ (.int .i64 ov)) = V99 at *
                have q_0 := N7.cell 0 (u := .int .i64 2) rfl
                have q_1 := N7.cell 1 (u := .int .i64 0) rfl
                have q_2 := N7.cell 2 (u := .int .i64 yf) rfl
                have q_3 := N7.cell 3 (u := .int .i64 yt) rfl
                have q_4 := N7.cell 4 (u := .int .i64 mo) rfl
                have q_5 := N7.cell 5 (u := .int .i64 d0) rfl
                have q_6 := N7.cell 6 (u := .int .i64 d1) rfl
                have q_7 := N7.cell 7 (u := .int .i64 d2) rfl
                have q_8 := N7.cell 8 (u := .int .i64 tv) rfl
                have q_9 := N7.cell 9 (u := .int .i64 ov) rfl
                have q_10 := N7.cell 10 (u := .int .i64 0) rfl
                have q_11 := N7.cell 11 (u := .bool false) rfl
                have q_12 := N7.cell 12 (u := .string ⟨#[]⟩) rfl
                have hz := N7.z
                have rr := setRow_heap V99 (w.heap.size) _ #[Value.int .i64 2, Value.int .i64 0, Value.int .i64 yf, Value.int .i64 yt, Value.int .i64 mo, Value.int .i64 d0, Value.int .i64 d1, Value.int .i64 d2, Value.int .i64 tv, Value.int .i64 ov, Value.int .i64 0, Value.bool false, Value.string ⟨#[]⟩] _ _ hz
                obtain ⟨r_0, r_1, r_2, r_3, r_4, r_5, r_6, r_7, r_8, r_9, r_10, r_11, r_12⟩ := qv13 rr
                have hbel := Lib.hid N7.bel
                go_wp2_with (refine wpList_store_row (by rfl) 49 _ _ (by rfl) (w.heap.size) #[Value.int .i64 2, Value.int .i64 0, Value.int .i64 yf, Value.int .i64 yt, Value.int .i64 mo, Value.int .i64 d0, Value.int .i64 d1, Value.int .i64 d2, Value.int .i64 tv, Value.int .i64 ov, Value.int .i64 0, Value.bool false, Value.string ⟨#[]⟩] (by rfl) (by rfl) _ _ hz (by kernel_rfl) (by rfl) (by simp [Value.oneCell']) ?_)
                refine shut_ret (v := .tuple #[.agg #[.int .i64 2, .int .i64 0, .int .i64 yf, .int .i64 yt, .int .i64 mo, .int .i64 d0, .int .i64 d1, .int .i64 d2, .int .i64 tv, .int .i64 ov, .int .i64 0, .bool false, .string ⟨#[]⟩], .int .i64 oe]) (by simp [results, Tryz.results92, go_sem, r_0, r_1, r_2, r_3, r_4, r_5, r_6, r_7, r_8, r_9, r_10, r_11, r_12]) rfl ⟨⟨2, 0, yf, yt, mo, d0, d1, d2, tv, ov, 0, false, []⟩, by (rw [hE.out, if_neg h1, if_neg h2, if_neg h3, if_neg h4, if_pos (Classical.not_not.1 h5)]; unfold linA; rw [bs_empty]), fun e => absurd (((by rw [hE.out, if_neg h1, if_neg h2, if_neg h3, if_neg h4, if_pos (Classical.not_not.1 h5)] : R = oe)).symm.trans e) (Classical.not_not.1 h5), ?_⟩
                exact keepRow hbel.out (Nat.le_refl _) _
            · have f4 : (ie != 0) = true := by simpa using h4
              clear HY HM HD HI HO HT
              go_upto_region 16 with fail
              generalize ((((V4.setCell ⟨(w.heap.size + 1), 5, none⟩ (.int .i64 d0)).setCell ⟨(w.heap.size + 1), 6, none⟩ (.int .i64 d1)).setCell ⟨(w.heap.size + 1), 7, none⟩ (.int .i64 d2)).setCell ⟨(w.heap.size + 1), 8, none⟩ (.int .i64 tv)) = V99 at *
              have q_0 := N6.cell 0 (u := .int .i64 2) rfl
              have q_1 := N6.cell 1 (u := .int .i64 0) rfl
              have q_2 := N6.cell 2 (u := .int .i64 yf) rfl
              have q_3 := N6.cell 3 (u := .int .i64 yt) rfl
              have q_4 := N6.cell 4 (u := .int .i64 mo) rfl
              have q_5 := N6.cell 5 (u := .int .i64 d0) rfl
              have q_6 := N6.cell 6 (u := .int .i64 d1) rfl
              have q_7 := N6.cell 7 (u := .int .i64 d2) rfl
              have q_8 := N6.cell 8 (u := .int .i64 tv) rfl
              have q_9 := N6.cell 9 (u := .int .i64 0) rfl
              have q_10 := N6.cell 10 (u := .int .i64 0) rfl
              have q_11 := N6.cell 11 (u := .bool false) rfl
              have q_12 := N6.cell 12 (u := .string ⟨#[]⟩) rfl
              have hz := N6.z
              have rr := setRow_heap V99 (w.heap.size) _ #[Value.int .i64 2, Value.int .i64 0, Value.int .i64 yf, Value.int .i64 yt, Value.int .i64 mo, Value.int .i64 d0, Value.int .i64 d1, Value.int .i64 d2, Value.int .i64 tv, Value.int .i64 0, Value.int .i64 0, Value.bool false, Value.string ⟨#[]⟩] _ _ hz
              obtain ⟨r_0, r_1, r_2, r_3, r_4, r_5, r_6, r_7, r_8, r_9, r_10, r_11, r_12⟩ := qv13 rr
              have hbel := Lib.hid N6.bel
              go_wp2_with (refine wpList_store_row (by rfl) 49 _ _ (by rfl) (w.heap.size) #[Value.int .i64 2, Value.int .i64 0, Value.int .i64 yf, Value.int .i64 yt, Value.int .i64 mo, Value.int .i64 d0, Value.int .i64 d1, Value.int .i64 d2, Value.int .i64 tv, Value.int .i64 0, Value.int .i64 0, Value.bool false, Value.string ⟨#[]⟩] (by rfl) (by rfl) _ _ hz (by kernel_rfl) (by rfl) (by simp [Value.oneCell']) ?_)
              refine shut_ret (v := .tuple #[.agg #[.int .i64 2, .int .i64 0, .int .i64 yf, .int .i64 yt, .int .i64 mo, .int .i64 d0, .int .i64 d1, .int .i64 d2, .int .i64 tv, .int .i64 0, .int .i64 0, .bool false, .string ⟨#[]⟩], .int .i64 ie]) (by simp [results, Tryz.results92, go_sem, r_0, r_1, r_2, r_3, r_4, r_5, r_6, r_7, r_8, r_9, r_10, r_11, r_12]) rfl ⟨⟨2, 0, yf, yt, mo, d0, d1, d2, tv, 0, 0, false, []⟩, by (rw [hE.out, if_neg h1, if_neg h2, if_neg h3, if_pos (Classical.not_not.1 h4)]; unfold linA; rw [bs_empty]), fun e => absurd (((by rw [hE.out, if_neg h1, if_neg h2, if_neg h3, if_pos (Classical.not_not.1 h4)] : R = ie)).symm.trans e) (Classical.not_not.1 h4), ?_⟩
              exact keepRow hbel.out (Nat.le_refl _) _
          · have f3 : (de != 0) = true := by simpa using h3
            clear HY HM HD HI HO HT
            go_upto_region 13 with fail
            generalize (((V4.setCell ⟨(w.heap.size + 1), 5, none⟩ (.int .i64 d0)).setCell ⟨(w.heap.size + 1), 6, none⟩ (.int .i64 d1)).setCell ⟨(w.heap.size + 1), 7, none⟩ (.int .i64 d2)) = V99 at *
            have q_0 := N5.cell 0 (u := .int .i64 2) rfl
            have q_1 := N5.cell 1 (u := .int .i64 0) rfl
            have q_2 := N5.cell 2 (u := .int .i64 yf) rfl
            have q_3 := N5.cell 3 (u := .int .i64 yt) rfl
            have q_4 := N5.cell 4 (u := .int .i64 mo) rfl
            have q_5 := N5.cell 5 (u := .int .i64 d0) rfl
            have q_6 := N5.cell 6 (u := .int .i64 d1) rfl
            have q_7 := N5.cell 7 (u := .int .i64 d2) rfl
            have q_8 := N5.cell 8 (u := .int .i64 0) rfl
            have q_9 := N5.cell 9 (u := .int .i64 0) rfl
            have q_10 := N5.cell 10 (u := .int .i64 0) rfl
            have q_11 := N5.cell 11 (u := .bool false) rfl
            have q_12 := N5.cell 12 (u := .string ⟨#[]⟩) rfl
            have hz := N5.z
            have rr := setRow_heap V99 (w.heap.size) _ #[Value.int .i64 2, Value.int .i64 0, Value.int .i64 yf, Value.int .i64 yt, Value.int .i64 mo, Value.int .i64 d0, Value.int .i64 d1, Value.int .i64 d2, Value.int .i64 0, Value.int .i64 0, Value.int .i64 0, Value.bool false, Value.string ⟨#[]⟩] _ _ hz
            obtain ⟨r_0, r_1, r_2, r_3, r_4, r_5, r_6, r_7, r_8, r_9, r_10, r_11, r_12⟩ := qv13 rr
            have hbel := Lib.hid N5.bel
            go_wp2_with (refine wpList_store_row (by rfl) 49 _ _ (by rfl) (w.heap.size) #[Value.int .i64 2, Value.int .i64 0, Value.int .i64 yf, Value.int .i64 yt, Value.int .i64 mo, Value.int .i64 d0, Value.int .i64 d1, Value.int .i64 d2, Value.int .i64 0, Value.int .i64 0, Value.int .i64 0, Value.bool false, Value.string ⟨#[]⟩] (by rfl) (by rfl) _ _ hz (by kernel_rfl) (by rfl) (by simp [Value.oneCell']) ?_)
            refine shut_ret (v := .tuple #[.agg #[.int .i64 2, .int .i64 0, .int .i64 yf, .int .i64 yt, .int .i64 mo, .int .i64 d0, .int .i64 d1, .int .i64 d2, .int .i64 0, .int .i64 0, .int .i64 0, .bool false, .string ⟨#[]⟩], .int .i64 de]) (by simp [results, Tryz.results92, go_sem, r_0, r_1, r_2, r_3, r_4, r_5, r_6, r_7, r_8, r_9, r_10, r_11, r_12]) rfl ⟨⟨2, 0, yf, yt, mo, d0, d1, d2, 0, 0, 0, false, []⟩, by (rw [hE.out, if_neg h1, if_neg h2, if_pos (Classical.not_not.1 h3)]; unfold linA; rw [bs_empty]), fun e => absurd (((by rw [hE.out, if_neg h1, if_neg h2, if_pos (Classical.not_not.1 h3)] : R = de)).symm.trans e) (Classical.not_not.1 h3), ?_⟩
            exact keepRow hbel.out (Nat.le_refl _) _
        · have f2 : (mo == 0) = true := by simpa using h2
          clear HY HM HD HI HO HT
          go_upto_region 10 with fail
          generalize (V2.setCell ⟨(w.heap.size + 1), 4, none⟩ (.int .i64 mo)) = V99 at *
          have q_0 := N3.cell 0 (u := .int .i64 2) rfl
          have q_1 := N3.cell 1 (u := .int .i64 0) rfl
          have q_2 := N3.cell 2 (u := .int .i64 yf) rfl
          have q_3 := N3.cell 3 (u := .int .i64 yt) rfl
          have q_4 := N3.cell 4 (u := .int .i64 mo) rfl
          have q_5 := N3.cell 5 (u := .int .i64 0) rfl
          have q_6 := N3.cell 6 (u := .int .i64 0) rfl
          have q_7 := N3.cell 7 (u := .int .i64 0) rfl
          have q_8 := N3.cell 8 (u := .int .i64 0) rfl
          have q_9 := N3.cell 9 (u := .int .i64 0) rfl
          have q_10 := N3.cell 10 (u := .int .i64 0) rfl
          have q_11 := N3.cell 11 (u := .bool false) rfl
          have q_12 := N3.cell 12 (u := .string ⟨#[]⟩) rfl
          have hz := N3.z
          have rr := setRow_heap V99 (w.heap.size) _ #[Value.int .i64 2, Value.int .i64 0, Value.int .i64 yf, Value.int .i64 yt, Value.int .i64 mo, Value.int .i64 0, Value.int .i64 0, Value.int .i64 0, Value.int .i64 0, Value.int .i64 0, Value.int .i64 0, Value.bool false, Value.string ⟨#[]⟩] _ _ hz
          obtain ⟨r_0, r_1, r_2, r_3, r_4, r_5, r_6, r_7, r_8, r_9, r_10, r_11, r_12⟩ := qv13 rr
          have hbel := Lib.hid N3.bel
          go_wp2_with (refine wpList_store_row (by rfl) 49 _ _ (by rfl) (w.heap.size) #[Value.int .i64 2, Value.int .i64 0, Value.int .i64 yf, Value.int .i64 yt, Value.int .i64 mo, Value.int .i64 0, Value.int .i64 0, Value.int .i64 0, Value.int .i64 0, Value.int .i64 0, Value.int .i64 0, Value.bool false, Value.string ⟨#[]⟩] (by rfl) (by rfl) _ _ hz (by kernel_rfl) (by rfl) (by simp [Value.oneCell']) ?_)
          refine shut_ret (v := .tuple #[.agg #[.int .i64 2, .int .i64 0, .int .i64 yf, .int .i64 yt, .int .i64 mo, .int .i64 0, .int .i64 0, .int .i64 0, .int .i64 0, .int .i64 0, .int .i64 0, .bool false, .string ⟨#[]⟩], .int .i64 2]) (by simp [results, Tryz.results92, go_sem, r_0, r_1, r_2, r_3, r_4, r_5, r_6, r_7, r_8, r_9, r_10, r_11, r_12]) rfl ⟨⟨2, 0, yf, yt, mo, 0, 0, 0, 0, 0, 0, false, []⟩, by (rw [hE.out, if_neg h1, if_pos (Classical.not_not.1 h2)]; unfold linA; rw [bs_empty]), fun e => absurd e (by (rw [hE.out, if_neg h1, if_pos (Classical.not_not.1 h2)]); decide), ?_⟩
          exact keepRow hbel.out (Nat.le_refl _) _
      · have f1 : (ye != 0) = true := by simpa using h1
        clear HY HM HD HI HO HT
        have q_0 := N1.cell 0 (u := .int .i64 2) rfl
        have q_1 := N1.cell 1 (u := .int .i64 0) rfl
        have q_2 := N1.cell 2 (u := .int .i64 yf) rfl
        have q_3 := N1.cell 3 (u := .int .i64 yt) rfl
        have q_4 := N1.cell 4 (u := .int .i64 0) rfl
        have q_5 := N1.cell 5 (u := .int .i64 0) rfl
        have q_6 := N1.cell 6 (u := .int .i64 0) rfl
        have q_7 := N1.cell 7 (u := .int .i64 0) rfl
        have q_8 := N1.cell 8 (u := .int .i64 0) rfl
        have q_9 := N1.cell 9 (u := .int .i64 0) rfl
        have q_10 := N1.cell 10 (u := .int .i64 0) rfl
        have q_11 := N1.cell 11 (u := .bool false) rfl
        have q_12 := N1.cell 12 (u := .string ⟨#[]⟩) rfl
        have hz := N1.z
        have rr := setRow_heap V1 (w.heap.size) _ #[Value.int .i64 2, Value.int .i64 0, Value.int .i64 yf, Value.int .i64 yt, Value.int .i64 0, Value.int .i64 0, Value.int .i64 0, Value.int .i64 0, Value.int .i64 0, Value.int .i64 0, Value.int .i64 0, Value.bool false, Value.string ⟨#[]⟩] _ _ hz
        obtain ⟨r_0, r_1, r_2, r_3, r_4, r_5, r_6, r_7, r_8, r_9, r_10, r_11, r_12⟩ := qv13 rr
        have hbel := Lib.hid N1.bel
        go_wp2_with (refine wpList_store_row (by rfl) 49 _ _ (by rfl) (w.heap.size) #[Value.int .i64 2, Value.int .i64 0, Value.int .i64 yf, Value.int .i64 yt, Value.int .i64 0, Value.int .i64 0, Value.int .i64 0, Value.int .i64 0, Value.int .i64 0, Value.int .i64 0, Value.int .i64 0, Value.bool false, Value.string ⟨#[]⟩] (by rfl) (by rfl) _ _ hz (by kernel_rfl) (by rfl) (by simp [Value.oneCell']) ?_)
        refine shut_ret (v := .tuple #[.agg #[.int .i64 2, .int .i64 0, .int .i64 yf, .int .i64 yt, .int .i64 0, .int .i64 0, .int .i64 0, .int .i64 0, .int .i64 0, .int .i64 0, .int .i64 0, .bool false, .string ⟨#[]⟩], .int .i64 ye]) (by simp [results, Tryz.results92, go_sem, r_0, r_1, r_2, r_3, r_4, r_5, r_6, r_7, r_8, r_9, r_10, r_11, r_12]) rfl ⟨⟨2, 0, yf, yt, 0, 0, 0, 0, 0, 0, 0, false, []⟩, by (rw [hE.out, if_pos (Classical.not_not.1 h1)]; unfold linA; rw [bs_empty]), fun e => absurd (((by rw [hE.out, if_pos (Classical.not_not.1 h1)] : R = ye)).symm.trans e) (Classical.not_not.1 h1), ?_⟩
        exact keepRow hbel.out (Nat.le_refl _) _
  · have hE : ruE ws = 2 := if_pos h10
    rw [hE]
    have f1 : ((ws.length : Int) != 10) = true := bne_iff_ne.2 (by omega)
    clear hR hw hE
    generalize ws.length = N at *
    replace h10 := Lib.hid h10
    go_enter Tryz.func92, Tryz.ntmps92
    refine wp_shut ?_
    go_wp2
    refine shut_ret (v := .tuple #[.agg #[.int .i64 0, .int .i64 0, .int .i64 0, .int .i64 0, .int .i64 0, .int .i64 0, .int .i64 0, .int .i64 0, .int .i64 0, .int .i64 0, .int .i64 0, .bool false, .string ⟨#[]⟩], .int .i64 2]) (by simp [results, Tryz.results92, go_sem]) rfl ⟨lin0, by rw [linA0], fun e => absurd e (by decide), ?_⟩
    exact (Below.refl _ w).alloc (Nat.le_refl _) _
end Go.Proofs.YtacpcjdiljnlaaaGreatDoor
namespace Go.Proofs.YtacpcjdiljnlaaaGreatDoor
set_option linter.unusedVariables false
set_option linter.unusedSimpArgs false
open Go.ChangeShapes Go.WideShapes Go.ChangeAt Go.RowKit
theorem infoLin : (Tryz.prog.info? 49).map (fun i => (i.zero, i.size, i.bytes)) = some (some (.agg #[.int .i64 0, .int .i64 0, .int .i64 0, .int .i64 0, .int .i64 0, .int .i64 0, .int .i64 0, .int .i64 0, .int .i64 0, .int .i64 0, .int .i64 0, .bool false, .string ⟨#[]⟩]), 13, 112) := by kernel_rfl
structure SrH (B : Nat) (w0 w : World) (zb : Nat) (z : Src) (v : Value) : Prop where
  row : w.heap[zb]? = some (.cells #[.string (bs z.nam), .int .i64 z.off, .bool z.dst, .string (bs z.abb), v] 26 (0, 0))
  own : w.ownsRow B 49 13 v z.lns.length (linVs z.lns)
  bz : B ≤ zb
  bel : Below B w0 w
  sz : B ≤ w.heap.size
section
variable {B : Nat} {w0 w w' : World} {zb : Nat} {z : Src} {v : Value}
theorem SrH.lt (h : SrH B w0 w zb z v) : zb < w.heap.size := (Array.getElem?_eq_some_iff.1 h.row).1
theorem SrH.vz (h : SrH B w0 w zb z v) : v.ownBlock ≠ some zb := own_kind h.own h.row (fun c fz e => by injection e with _ e2; exact absurd e2 (by decide))
theorem SrH.call (h : SrH B w0 w zb z v) (hb : Below w.heap.size w w') : SrH B w0 w' zb z v :=
  ⟨(hb.block zb h.lt).trans h.row, own_up h.own hb, h.bz, h.bel.trans (hb.mono h.sz), Nat.le_trans h.sz hb.size⟩
theorem SrH.drew (h : SrH B w0 w zb z v) : SrH B w0 w.drew zb z v := ⟨h.row, h.own, h.bz, h.bel.drew, h.sz⟩
theorem SrH.alloc (h : SrH B w0 w zb z v) (o : Obj) : SrH B w0 (w.alloc o) zb z v := h.call ((Below.refl _ w).alloc (Nat.le_refl _) _)
theorem SrH.set (h : SrH B w0 w zb z v) (j : Nat) (a : Value) (z' : Src) (hr : (#[.string (bs z.nam), .int .i64 z.off, .bool z.dst, .string (bs z.abb), v] : Array Value).setIfInBounds j a = #[.string (bs z'.nam), .int .i64 z'.off, .bool z'.dst, .string (bs z'.abb), v]) (hl : z'.lns = z.lns) :
    SrH B w0 (w.setCell ⟨zb, j, none⟩ a) zb z' v := by
  refine ⟨by rw [row_set1 h.row, hr], ?_, h.bz, h.bel.setCell (by exact h.bz) _, ?_⟩
  · rw [hl]; exact own_stay h.own (fun g hg => row_other1 (fun e => h.vz (by rw [hg, e])) rfl j a)
  · have e := h.sz
    simpa [World.setCell] using e
theorem SrH.app (h : SrH B w0 w zb z v) {w1 : World} {x : Obj} {g cap : Nat} (l : Lin) (hown : w1.ownsRow B 49 13 (.slice (some ⟨g, 0, none⟩) (z.lns.length + 1) cap) (z.lns.length + 1) (linVs z.lns ++ linV l)) (hg : (w.alloc x).grownBy w1 v.ownBlock) :
    w1.heap[zb]? = some (.cells #[.string (bs z.nam), .int .i64 z.off, .bool z.dst, .string (bs z.abb), v] 26 (0, 0)) ∧ SrH B w0 (w1.setCell ⟨zb, 4, none⟩ (.slice (some ⟨g, 0, none⟩) (z.lns.length + 1) cap)) zb { z with lns := z.lns ++ [l] } (.slice (some ⟨g, 0, none⟩) (z.lns.length + 1) cap) := by
  have r1 := (app_keep hg h.lt h.vz).trans h.row
  have v1 : w1.ownsRow B 49 13 (.slice (some ⟨g, 0, none⟩) (z.lns.length + 1) cap) (z.lns ++ [l]).length (linVs (z.lns ++ [l])) := by
    rw [linVs_snoc, List.length_append]
    exact hown
  have vM : Value.ownBlock (.slice (some ⟨g, 0, none⟩) (z.lns.length + 1) cap) ≠ some zb := own_kind v1 r1 (fun c fz e => by injection e with _ e2; exact absurd e2 (by decide))
  have hs := hg.size
  have hs2 : (w.alloc x).heap.size = w.heap.size + 1 := by simp
  have hs3 := h.sz
  refine ⟨r1, by rw [row_set1 r1]; rfl, own_stay v1 (fun k hk => row_other1 (fun e => vM (by rw [hk, e])) rfl 4 _), h.bz, (bel_append h.bel h.sz h.own hg).setCell (by exact h.bz) _, ?_⟩
  have e : B ≤ w1.heap.size := by omega
  simpa [World.setCell] using e
end
theorem wdr_at (ws : List (List UInt8)) (k : Nat) (h : k < ws.length) : wd ws k = ws[k] := by unfold wd; simp [List.getD, List.getElem?_eq_getElem h]
set_option maxHeartbeats 6400000 in
theorem rHead_any {B : Nat} {w0 w : World} {zb : Nat} {z : Src} {v : Value} (n : Nat) (ws : List (List UInt8)) (hws : ws ≠ []) (hw : ∀ x ∈ ws, x.length ≤ 100000) (A : Option Addr) (c : Nat) (hR : Rd w A (ws.map strV)) (hb : ∀ b o, A = some ⟨b, o, none⟩ → b ≠ zb) (h : SrH B w0 w zb z v) :
    Calls Tryz.prog 57 #[.pointer (some ⟨zb, 0, none⟩), .int .i64 (n : Int), .slice A ws.length c] w fun e w' => e = .returned (.int .i64 (hdE n ws)) ∧ Below B w0 w' ∧ (hdE n ws = 0 → SrH B w0 w' zb (hdS z n ws) v) := by
  have h0 : 0 < ws.length := List.length_pos_iff.2 hws
  obtain ⟨b, o, rfl, hbl, hcell⟩ := hR.wrd (k := 0) h0
  have hbz := hb b o rfl
  have k0 := hcell 0 h0
  have l0 := bs_list (wd ws 0)
  have g0 := wdr_at ws 0 h0
  rw [← g0, Nat.add_zero] at k0
  by_cases hn : n = 0
  · subst hn
    by_cases h1 : wd ws 0 ≠ zonW
    · have E : hdE 0 ws = 2 := by unfold hdE; rw [if_pos rfl, if_pos (Or.inl h1)]
      rw [E]
      have q1 : (wd ws 0 == [122, 111, 110, 101]) = false := beq_false_of_ne h1
      have hbel := Lib.hid h.bel
      replace h := Lib.hid h
      replace h1 := Lib.hid h1
      clear hcell g0 E
      generalize wd ws 0 = x0 at *
      go_enter Tryz.func57, Tryz.ntmps57
      go_wp2
      go_ret
      exact ⟨rfl, hbel.out, fun e => absurd e (by decide)⟩
    · have h1' : wd ws 0 = zonW := Classical.not_not.1 h1
      have q1 : (wd ws 0 == [122, 111, 110, 101]) = true := by rw [h1']; rfl
      replace h1' := Lib.hid h1'
      by_cases h2 : ws.length ≠ 2
      · have E : hdE 0 ws = 2 := by unfold hdE; rw [if_pos rfl, if_pos (Or.inr h2)]
        rw [E]
        have q2 : ((ws.length : Int) != 2) = true := bne_iff_ne.2 (by omega)
        have hbel := Lib.hid h.bel
        replace h := Lib.hid h
        replace h1 := Lib.hid h1
        replace h2 := Lib.hid h2
        clear hcell g0 E
        generalize wd ws 0 = x0 at *
        go_enter Tryz.func57, Tryz.ntmps57
        go_wp2
        go_ret
        exact ⟨rfl, hbel.out, fun e => absurd e (by decide)⟩
      · have h2' : ws.length = 2 := Classical.not_not.1 h2
        have E : hdE 0 ws = namE (wd ws 1) := by unfold hdE; rw [if_pos rfl, if_neg (by intro e; rcases e with e | e; exact h1 e; exact h2 e)]
        have E2 : hdS z 0 ws = { z with nam := wd ws 1 } := if_pos rfl
        have k1 := hcell 1 (by omega)
        have g1 := wdr_at ws 1 (by omega)
        rw [← g1] at k1
        have m1 : (wd ws 1).length ≤ 100000 := by rw [g1]; exact hw _ (by simp)
        rw [E, E2]
        have HN := Lib.hid (rName_any (wd ws 1) m1)
        have q2 : ((ws.length : Int) != 2) = false := by rw [h2']; rfl
        have c0 : w.cell? ⟨zb, 0, none⟩ = some (.string (bs z.nam)) := by rw [Lib.cell_of_heap h.row]; rfl
        have f0 : w.frozen? ⟨zb, 0, none⟩ = false := Lib.frozen_of_heap h.row 0
        have k1' : (w.setCell ⟨zb, 0, none⟩ (.string (bs (wd ws 1)))).cell? ⟨b, o + 1, none⟩ = some (.string (bs (wd ws 1))) := cell_far1 hbz k1
        have hS := Lib.hid (h.set 0 (.string (bs (wd ws 1))) { z with nam := wd ws 1 } rfl rfl)
        have hi2 : (1 : Int) < (ws.length : Int) := by omega
        clear hcell g0 g1 E E2 h
        replace h1 := Lib.hid h1
        replace h2 := Lib.hid h2
        replace h2' := Lib.hid h2'
        generalize wd ws 0 = x0 at *
        generalize wd ws 1 = x1 at *
        generalize namE x1 = R at *
        generalize ws.length = N at *
        go_enter Tryz.func57, Tryz.ntmps57
        go_wp2_with fail
        refine (HN.out _).mono ?_
        rintro e w1 ⟨rfl, rfl⟩
        go_wp2
        go_ret
        exact ⟨rfl, hS.out.bel, fun _ => hS.out⟩
  · have qn : ((n : Int) == 0) = false := beq_false_of_ne (by omega)
    by_cases h1 : wd ws 0 ≠ basW
    · have E : hdE n ws = 2 := by unfold hdE; rw [if_neg hn, if_pos (Or.inl h1)]
      rw [E]
      have q1 : (wd ws 0 == [98, 97, 115, 101]) = false := beq_false_of_ne h1
      have hbel := Lib.hid h.bel
      replace h := Lib.hid h
      replace h1 := Lib.hid h1
      replace hn := Lib.hid hn
      clear hcell g0 E
      generalize wd ws 0 = x0 at *
      go_enter Tryz.func57, Tryz.ntmps57
      go_wp2
      go_ret
      exact ⟨rfl, hbel.out, fun e => absurd e (by decide)⟩
    · have h1' : wd ws 0 = basW := Classical.not_not.1 h1
      have q1 : (wd ws 0 == [98, 97, 115, 101]) = true := by rw [h1']; rfl
      replace h1' := Lib.hid h1'
      by_cases h2 : ws.length ≠ 3
      · have E : hdE n ws = 2 := by unfold hdE; rw [if_neg hn, if_pos (Or.inr h2)]
        rw [E]
        have q2 : ((ws.length : Int) != 3) = true := bne_iff_ne.2 (by omega)
        have hbel := Lib.hid h.bel
        replace h := Lib.hid h
        replace h1 := Lib.hid h1
        replace h2 := Lib.hid h2
        replace hn := Lib.hid hn
        clear hcell g0 E
        generalize wd ws 0 = x0 at *
        go_enter Tryz.func57, Tryz.ntmps57
        go_wp2
        go_ret
        exact ⟨rfl, hbel.out, fun e => absurd e (by decide)⟩
      · have h2' : ws.length = 3 := Classical.not_not.1 h2
        have k1 := hcell 1 (by omega)
        have g1 := wdr_at ws 1 (by omega)
        rw [← g1] at k1
        have m1 : (wd ws 1).length ≤ 100000 := by rw [g1]; exact hw _ (by simp)
        have k2 := hcell 2 (by omega)
        have g2 := wdr_at ws 2 (by omega)
        rw [← g2] at k2
        have m2 : (wd ws 2).length ≤ 100000 := by rw [g2]; exact hw _ (by simp)
        have E : hdE n ws = if offE (wd ws 1) ≠ 0 then offE (wd ws 1) else abbE (wd ws 2) := by unfold hdE; rw [if_neg hn, if_neg (by intro e; rcases e with e | e; exact h1 e; exact h2 e)]
        have E2 : hdS z n ws = { z with off := offV (wd ws 1), dst := false, abb := wd ws 2 } := if_neg hn
        rw [E, E2]
        have HO := Lib.hid (rOffset_any (wd ws 1) m1)
        have HB := Lib.hid (rAbbr_any (wd ws 2) m2)
        have q2 : ((ws.length : Int) != 3) = false := by rw [h2']; rfl
        have hi1 : (1 : Int) < (ws.length : Int) := by omega
        have hi2 : (2 : Int) < (ws.length : Int) := by omega
        have hbel := Lib.hid h.bel
        have c1 : w.cell? ⟨zb, 1, none⟩ = some (.int .i64 z.off) := by rw [Lib.cell_of_heap h.row]; rfl
        have c2 : w.cell? ⟨zb, 2, none⟩ = some (.bool z.dst) := by rw [Lib.cell_of_heap h.row]; rfl
        have c3 : w.cell? ⟨zb, 3, none⟩ = some (.string (bs z.abb)) := by rw [Lib.cell_of_heap h.row]; rfl
        have f1 : w.frozen? ⟨zb, 1, none⟩ = false := Lib.frozen_of_heap h.row 1
        have f2 : w.frozen? ⟨zb, 2, none⟩ = false := Lib.frozen_of_heap h.row 2
        have f3 : w.frozen? ⟨zb, 3, none⟩ = false := Lib.frozen_of_heap h.row 3
        clear hcell g0 g1 g2 E E2
        replace h1 := Lib.hid h1
        replace h2 := Lib.hid h2
        replace h2' := Lib.hid h2'
        replace hn := Lib.hid hn
        generalize wd ws 0 = x0 at *
        generalize wd ws 1 = x1 at *
        generalize wd ws 2 = x2 at *
        generalize offE x1 = oe at *
        generalize offV x1 = ov at *
        generalize abbE x2 = ae at *
        generalize ws.length = N at *
        have k2' : (((w.setCell ⟨zb, 1, none⟩ (.int .i64 ov)).setCell ⟨zb, 2, none⟩ (.bool false)).setCell ⟨zb, 3, none⟩ (.string (bs x2))).cell? ⟨b, o + 2, none⟩ = some (.string (bs x2)) := cell_far1 hbz (cell_far1 hbz (cell_far1 hbz k2))
        have hS := Lib.hid (((h.set 1 (.int .i64 ov) { z with off := ov } rfl rfl).set 2 (.bool false) { z with off := ov, dst := false } rfl rfl).set 3 (.string (bs x2)) { z with off := ov, dst := false, abb := x2 } rfl rfl)
        replace h := Lib.hid h
        by_cases h3 : oe ≠ 0
        · have q3 : (oe != 0) = true := bne_iff_ne.2 h3
          rw [if_pos h3]
          clear hS k2'
          go_enter Tryz.func57, Tryz.ntmps57
          go_wp2_with fail
          refine (HO.out _).mono ?_
          rintro e w1 ⟨rfl, rfl⟩
          go_wp2
          go_ret
          exact ⟨rfl, hbel.out, fun e => absurd e h3⟩
        · have q3 : (oe != 0) = false := by simpa using h3
          rw [if_neg h3]
          go_enter Tryz.func57, Tryz.ntmps57
          go_wp2_with fail
          refine (HO.out _).mono ?_
          rintro e w1 ⟨rfl, rfl⟩
          go_wp2_with fail
          refine (HB.out _).mono ?_
          rintro e w1 ⟨rfl, rfl⟩
          go_wp2
          go_ret
          exact ⟨rfl, hS.out.bel, fun _ => hS.out⟩
end Go.Proofs.YtacpcjdiljnlaaaGreatDoor
namespace Go.Proofs.YtacpcjdiljnlaaaGreatDoor
set_option linter.unusedVariables false
open Go.ChangeShapes Go.WideShapes Go.ChangeAt Go.RowKit
structure SB (z : Src) : Prop where
  lns : z.lns.length ≤ 9223372036854775807
  nam : z.nam.length ≤ 9223372036854775807
  abb : z.abb.length ≤ 9223372036854775807
  each : ∀ l ∈ z.lns, l.abb.length ≤ 9223372036854775807
  dn : ∀ l ∈ z.lns, -9223372036854775808 ≤ l.dn ∧ l.dn ≤ 9223372036854775807
theorem abb_len {L : List UInt8} (h : abbE L = 0) : L.length ≤ 6 := by
  unfold abbE at h
  split at h
  · rename_i k; exact k.2.2
  · cases h
theorem nam_len {L : List UInt8} (h : namE L = 0) : L.length ≤ 32 := by
  unfold namE at h
  split at h
  · rename_i k; exact k.2.1
  · cases h
theorem SB.of {z : Src} (h : OkS z) : SB z := by
  obtain ⟨h1, _, h2, h3, _, h4⟩ := h
  refine ⟨by omega, by have := nam_len h2; omega, by have := abb_len h3.2.2; omega, fun l hl => ?_, fun l hl => ?_⟩
  · have := abb_len (h4 l hl).2.2.2
    omega
  · rcases (h4 l hl).1 with ⟨_, _, _, _, _, e, _⟩ | ⟨_, _, _, _, _, _, _, e, _⟩
    · omega
    · rcases mayD_parts e with ⟨_, e, _⟩ | ⟨_, _, e⟩ | ⟨_, _, e⟩ | ⟨_, _, e⟩ <;> omega
theorem SB.none : SB src0 := ⟨by simp [src0], by simp [src0], by simp [src0], by intro l hl; simp [src0] at hl, by intro l hl; simp [src0] at hl⟩
end Go.Proofs.YtacpcjdiljnlaaaGreatDoor
namespace Go.Proofs.YtacpcjdiljnlaaaGreatDoor
set_option linter.unusedVariables false
set_option linter.unusedSimpArgs false
open Go.ChangeShapes Go.WideShapes Go.ChangeAt Go.RowKit
theorem SrH.setRow {B : Nat} {w0 w : World} {zb : Nat} {z : Src} {v : Value} (h : SrH B w0 w zb z v) {k : Nat} (cs : Array Value) (hk : k ≠ zb) (hv : v.ownBlock ≠ some k) (hB : B ≤ k) : SrH B w0 (w.setRow k cs) zb z v := by
  refine ⟨row_otherR (Ne.symm hk) h.row cs, own_stay h.own (fun g hg => row_otherR (fun e => hv (by rw [hg, e])) rfl cs), h.bz, keepRow h.bel hB cs, ?_⟩
  have e := h.sz
  simpa [World.setRow] using e
theorem rLineAt_x (ws : List (List UInt8)) (hw : ∀ x ∈ ws, x.length ≤ 100000) (A : Option Addr) (c : Nat) (hc : ws.length ≤ c) (W : World) (hR : Rd W A (ws.map strV)) :
    Calls Tryz.prog 91 #[.slice A ws.length c] W fun e w' => ∃ lk lsec lf lt lm ldk ldn ldw lti lrd lof lds lab, e = .returned (.tuple #[.agg #[.int .i64 lk, .int .i64 lsec, .int .i64 lf, .int .i64 lt, .int .i64 lm, .int .i64 ldk, .int .i64 ldn, .int .i64 ldw, .int .i64 lti, .int .i64 lrd, .int .i64 lof, .bool lds, .string (bs lab)], .int .i64 (aliE ws)]) ∧ (aliE ws = 0 → (⟨lk, lsec, lf, lt, lm, ldk, ldn, ldw, lti, lrd, lof, lds, lab⟩ : Lin) = aliL ws) ∧ Below W.heap.size W w' := by
  refine (rLineAt_any ws hw A c hc W hR).mono ?_
  rintro e w' ⟨⟨lk, lsec, lf, lt, lm, ldk, ldn, ldw, lti, lrd, lof, lds, lab⟩, h1, h2, h3⟩
  exact ⟨lk, lsec, lf, lt, lm, ldk, ldn, ldw, lti, lrd, lof, lds, lab, h1, h2, h3⟩
theorem rLineRule_x (ws : List (List UInt8)) (hw : ∀ x ∈ ws, x.length ≤ 100000) (A : Option Addr) (c : Nat) (hc : ws.length ≤ c) (W : World) (hR : Rd W A (ws.map strV)) :
    Calls Tryz.prog 92 #[.slice A ws.length c] W fun e w' => ∃ lk lsec lf lt lm ldk ldn ldw lti lrd lof lds lab, e = .returned (.tuple #[.agg #[.int .i64 lk, .int .i64 lsec, .int .i64 lf, .int .i64 lt, .int .i64 lm, .int .i64 ldk, .int .i64 ldn, .int .i64 ldw, .int .i64 lti, .int .i64 lrd, .int .i64 lof, .bool lds, .string (bs lab)], .int .i64 (ruE ws)]) ∧ (ruE ws = 0 → (⟨lk, lsec, lf, lt, lm, ldk, ldn, ldw, lti, lrd, lof, lds, lab⟩ : Lin) = ruL ws) ∧ Below W.heap.size W w' := by
  refine (rLineRule_any ws hw A c hc W hR).mono ?_
  rintro e w' ⟨⟨lk, lsec, lf, lt, lm, ldk, ldn, ldw, lti, lrd, lof, lds, lab⟩, h1, h2, h3⟩
  exact ⟨lk, lsec, lf, lt, lm, ldk, ldn, ldw, lti, lrd, lof, lds, lab, h1, h2, h3⟩
set_option maxHeartbeats 12800000 in
set_option maxRecDepth 100000 in
theorem rLine15_any {B : Nat} {w0 w : World} {zb : Nat} {z : Src} {v : Value} (ws : List (List UInt8)) (hws : ws ≠ []) (hw : ∀ x ∈ ws, x.length ≤ 100000) (A : Option Addr) (c : Nat) (hc : ws.length ≤ c) (hR : Rd w A (ws.map strV)) (h : SrH B w0 w zb z v) (hln : z.lns.length ≤ 20) :
    Calls Tryz.prog 58 #[.pointer (some ⟨zb, 0, none⟩), .slice A ws.length c] w fun e w' => e = .returned (.int .i64 (lnE z.lns ws)) ∧ Below B w0 w' ∧ (lnE z.lns ws = 0 → ∃ v', SrH B w0 w' zb { z with lns := z.lns ++ [lnL ws] } v') := by
  obtain ⟨i0, hi, hz0, hz1, hz2⟩ := info_parts infoLin
  have h0 : 0 < ws.length := List.length_pos_iff.2 hws
  obtain ⟨A0, k0, g0, rfl, -⟩ := own_form h.own
  have c4 : w.cell? ⟨zb, 4, none⟩ = some (.slice A0 z.lns.length k0) := by rw [Lib.cell_of_heap h.row]; rfl
  by_cases h16 : 16 ≤ z.lns.length
  · have E : lnE z.lns ws = 1 := if_pos h16
    rw [E]
    have hbel := Lib.hid h.bel
    replace h := Lib.hid h
    clear E
    generalize z.lns.length = N at *
    go_enter Tryz.func58, Tryz.ntmps58
    go_wp2
    go_ret
    exact ⟨rfl, hbel.out, fun e => absurd e (by decide)⟩
  · have hE : lnE z.lns ws = if wd ws 0 = atW then aliE ws else if wd ws 0 = rulW then (if ws.length = 10 ∧ wd ws 2 = onL ∧ 4 ≤ tailN z.lns then 1 else ruE ws) else 2 := if_neg h16
    obtain ⟨b, o, rfl, hbl, hcell⟩ := hR.wrd (k := 0) h0
    have q0 := hcell 0 h0
    have l0 := bs_list (wd ws 0)
    have g0' := wdr_at ws 0 h0
    rw [← g0', Nat.add_zero] at q0
    have hRa := hR.below ((Below.refl w.heap.size w).alloc (Nat.le_refl _) (Obj.cells #[Value.int .i64 0, Value.int .i64 0, Value.int .i64 0, Value.int .i64 0, Value.int .i64 0, Value.int .i64 0, Value.int .i64 0, Value.int .i64 0, Value.int .i64 0, Value.int .i64 0, Value.int .i64 0, Value.bool false, Value.string ⟨#[]⟩] 49)) (Nat.le_refl _)
    have hi0 : (0 : Int) < (ws.length : Int) := by omega
    by_cases h1 : wd ws 0 = atW
    · have e1 : (wd ws 0 == [97, 116]) = true := by rw [h1]; rfl
      have E : lnE z.lns ws = aliE ws := by rw [hE, if_pos h1]
      have E2 : lnL ws = aliL ws := if_pos h1
      rw [E2]
      have EQ := Lib.hid E
      have HA := Lib.hid (rLineAt_x ws hw _ c hc _ hRa)
      clear hcell g0' E E2 hE hRa hR hw hws
      generalize lnE z.lns ws = R at *
      replace h1 := Lib.hid h1
      generalize aliE ws = EE at *
      generalize aliL ws = LL at *
      generalize wd ws 0 = x0 at *
      generalize ws.length = N at *
      go_enter Tryz.func58, Tryz.ntmps58
      go_wp2_with fail
      refine HA.out.mono ?_
      rintro e V1 ⟨lk, lsec, lf, lt, lm, ldk, ldn, ldw, lti, lrd, lof, lds, lab, rfl, hL, hb1⟩
      have hS1 := (h.alloc _).call hb1
      have hr0 : V1.heap[w.heap.size]? = some (.cells #[.int .i64 0, .int .i64 0, .int .i64 0, .int .i64 0, .int .i64 0, .int .i64 0, .int .i64 0, .int .i64 0, .int .i64 0, .int .i64 0, .int .i64 0, .bool false, .string ⟨#[]⟩] 49 (0, 0)) := (hb1.block _ (by simp)).trans (heap_alloc_new w _)
      have hS2 := hS1.setRow (k := w.heap.size) #[Value.int .i64 lk, Value.int .i64 lsec, Value.int .i64 lf, Value.int .i64 lt, Value.int .i64 lm, Value.int .i64 ldk, Value.int .i64 ldn, Value.int .i64 ldw, Value.int .i64 lti, Value.int .i64 lrd, Value.int .i64 lof, Value.bool lds, Value.string (bs lab)] (by have := h.lt; omega) (own_lt h.own (Nat.le_refl _)) h.sz
      have rr := setRow_heap V1 w.heap.size _ #[Value.int .i64 lk, Value.int .i64 lsec, Value.int .i64 lf, Value.int .i64 lt, Value.int .i64 lm, Value.int .i64 ldk, Value.int .i64 ldn, Value.int .i64 ldw, Value.int .i64 lti, Value.int .i64 lrd, Value.int .i64 lof, Value.bool lds, Value.string (bs lab)] _ _ hr0
      go_wp2_with (refine wpList_store_row (by rfl) 49 _ _ (by rfl) w.heap.size #[Value.int .i64 lk, Value.int .i64 lsec, Value.int .i64 lf, Value.int .i64 lt, Value.int .i64 lm, Value.int .i64 ldk, Value.int .i64 ldn, Value.int .i64 ldw, Value.int .i64 lti, Value.int .i64 lrd, Value.int .i64 lof, Value.bool lds, Value.string (bs lab)] (by rfl) (by rfl) _ _ hr0 (by kernel_rfl) (by rfl) (by simp [Value.oneCell']) ?_)
      generalize V1.setRow w.heap.size #[Value.int .i64 lk, Value.int .i64 lsec, Value.int .i64 lf, Value.int .i64 lt, Value.int .i64 lm, Value.int .i64 ldk, Value.int .i64 ldn, Value.int .i64 ldw, Value.int .i64 lti, Value.int .i64 lrd, Value.int .i64 lof, Value.bool lds, Value.string (bs lab)] = V2 at *
      obtain ⟨r_0, r_1, r_2, r_3, r_4, r_5, r_6, r_7, r_8, r_9, r_10, r_11, r_12⟩ := qv13 rr
      have c42 : V2.cell? ⟨zb, 4, none⟩ = some (.slice A0 z.lns.length k0) := by rw [Lib.cell_of_heap hS2.row]; rfl
      have f42 : V2.frozen? ⟨zb, 4, none⟩ = false := Lib.frozen_of_heap hS2.row 4
      have hov := hS2.own
      have hsz := hS2.sz
      have hlt4 := hS2.lt
      have HS := Lib.hid hS2
      clear hS1 hS2 hr0 hb1 HA
      replace h := Lib.hid h
      replace rr := Lib.hid rr
      go_region_law
        ((refine step_append_lies _ (by rfl) _ _ _ (by rfl) B 49 i0 (.agg #[.int .i64 0, .int .i64 0, .int .i64 0, .int .i64 0, .int .i64 0, .int .i64 0, .int .i64 0, .int .i64 0, .int .i64 0, .int .i64 0, .int .i64 0, .bool false, .string ⟨#[]⟩]) 13 112 Tryz.underlying24 hi hz0 hz1 hz2 rfl (by omega) (.slice A0 z.lns.length k0) z.lns.length (linVs z.lns) (by rfl) ((hov.alloc _).drew)
            ⟨V2.heap.size, 0, none⟩ 1 1 [.int .i64 lk, .int .i64 lsec, .int .i64 lf, .int .i64 lt, .int .i64 lm, .int .i64 ldk, .int .i64 ldn, .int .i64 ldw, .int .i64 lti, .int .i64 lrd, .int .i64 lof, .bool lds, .string (bs lab)] (by rfl) (by rfl) (World.news_of_block (cs := #[.int .i64 lk, .int .i64 lsec, .int .i64 lf, .int .i64 lt, .int .i64 lm, .int .i64 ldk, .int .i64 ldn, .int .i64 ldw, .int .i64 lti, .int .i64 lrd, .int .i64 lof, .bool lds, .string (bs lab)]) (t := 49) (fr := (0, 0)) (heap_alloc_new V2 _)) (by simp [Value.oneCell'])
            (by omega) (by unfold maxLen; omega) (by omega) (by simp; omega) (V2.heap.size + 1) (by simp) ?_; intro gg cap w1 hown1 hgrow hat hlt1; (have HT := Lib.hid (HS.out.drew.app (⟨lk, lsec, lf, lt, lm, ldk, ldn, ldw, lti, lrd, lof, lds, lab⟩ : Lin) hown1 hgrow)); (have d0 : w1.cell? ⟨zb, 4, none⟩ = some (.slice A0 z.lns.length k0) := by rw [Lib.cell_of_heap HT.out.1]; rfl); (have e0 : w1.frozen? ⟨zb, 4, none⟩ = false := Lib.frozen_of_heap HT.out.1 4)))
      all_goals
        go_wp2
        go_ret
        exact ⟨by rw [EQ.out]; rfl, HT.out.2.bel, fun e => ⟨_, by rw [← hL (EQ.out.symm.trans e)]; exact HT.out.2⟩⟩
    · have e1 : (wd ws 0 == [97, 116]) = false := beq_false_of_ne h1
      by_cases h2 : wd ws 0 = rulW
      · have e2 : (wd ws 0 == [114, 117, 108, 101]) = true := by rw [h2]; rfl
        have hRd : Rd (w.alloc (Obj.cells #[Value.int .i64 0, Value.int .i64 0, Value.int .i64 0, Value.int .i64 0, Value.int .i64 0, Value.int .i64 0, Value.int .i64 0, Value.int .i64 0, Value.int .i64 0, Value.int .i64 0, Value.int .i64 0, Value.bool false, Value.string ⟨#[]⟩] 49)) A0 (linVs z.lns) := Rd.own (h.alloc _).own
        have HN := Lib.hid (rTails_any z.lns A0 k0 _ (by omega) hRd)
        obtain ⟨X, hX⟩ : ∃ X, X = (decide (ws.length = 10) && (decide (wd ws 2 = onL) && decide (4 ≤ tailN z.lns))) := ⟨_, rfl⟩
        have E : lnE z.lns ws = if X = true then 1 else ruE ws := by
          rw [hE, if_neg h1, if_pos h2, hX]
          simp only [Bool.and_eq_true, decide_eq_true_eq]
        have E2 : lnL ws = ruL ws := if_neg h1
        have c4w : (w.alloc (Obj.cells #[Value.int .i64 0, Value.int .i64 0, Value.int .i64 0, Value.int .i64 0, Value.int .i64 0, Value.int .i64 0, Value.int .i64 0, Value.int .i64 0, Value.int .i64 0, Value.int .i64 0, Value.int .i64 0, Value.bool false, Value.string ⟨#[]⟩] 49)).cell? ⟨zb, 4, none⟩ = some (.slice A0 z.lns.length k0) := by rw [Lib.cell_of_heap (h.alloc _).row]; rfl
        have k2w : 2 < ws.length → (w.alloc (Obj.cells #[Value.int .i64 0, Value.int .i64 0, Value.int .i64 0, Value.int .i64 0, Value.int .i64 0, Value.int .i64 0, Value.int .i64 0, Value.int .i64 0, Value.int .i64 0, Value.int .i64 0, Value.int .i64 0, Value.bool false, Value.string ⟨#[]⟩] 49)).cell? ⟨b, o + 2, none⟩ = some (.string (bs (wd ws 2))) := fun h2 => by
          rw [wdr_at ws 2 h2]
          exact (World.cell?_of_block (a := ⟨b, o + 2, none⟩) (heap_alloc_old w _ hbl)).trans (hcell 2 h2)
        have HA := Lib.hid (rLineRule_x ws hw _ c hc _ hRa)
        have l2 := bs_list (wd ws 2)
        rw [E2]
        replace E := Lib.hid E
        clear hcell g0' E2 hE hRa hR hw hws hRd
        generalize lnE z.lns ws = R at *
        replace h1 := Lib.hid h1
        replace h2 := Lib.hid h2
        generalize ruE ws = EE at *
        generalize ruL ws = LL at *
        generalize wd ws 0 = x0 at *
        generalize wd ws 2 = x2 at *
        generalize tailN z.lns = tn at *
        generalize ws.length = N at *
        go_enter Tryz.func58, Tryz.ntmps58
        go_upto_region 10 with fail
        go_cut [41] (fun s41 wx => s41 = .bool X ∧ wx = (w.alloc (Obj.cells #[Value.int .i64 0, Value.int .i64 0, Value.int .i64 0, Value.int .i64 0, Value.int .i64 0, Value.int .i64 0, Value.int .i64 0, Value.int .i64 0, Value.int .i64 0, Value.int .i64 0, Value.int .i64 0, Value.bool false, Value.string ⟨#[]⟩] 49)))
        case first =>
          by_cases hN : N = 10
          · have qN : ((N : Int) == 10) = true := by rw [hN]; rfl
            have k2 := k2w (by omega)
            have hi2 : (2 : Int) < (N : Int) := by omega
            by_cases hx : x2 = onL
            · have q2 : (x2 == [111, 110]) = true := by rw [hx]; rfl
              have hX2 : Hid (X = decide ((4 : Int) ≤ (tn : Int))) := Lib.hid (by
                rw [hX, decide_eq_true hN, decide_eq_true hx]
                by_cases h4 : 4 ≤ tn
                · rw [decide_eq_true h4, decide_eq_true (by omega)]; rfl
                · rw [decide_eq_false h4, decide_eq_false (by omega)]; rfl)
              replace hX := Lib.hid hX
              replace hN := Lib.hid hN
              replace hx := Lib.hid hx
              go_wp2_with fail
              refine HN.out.mono ?_
              rintro e w1 ⟨rfl, rfl⟩
              go_wp2
              go_meet
              exact ⟨by rw [hX2.out], rfl⟩
            · have q2 : (x2 == [111, 110]) = false := beq_false_of_ne hx
              have hX2 : Hid (X = false) := Lib.hid (by rw [hX, decide_eq_false hx]; simp)
              replace hX := Lib.hid hX
              replace hN := Lib.hid hN
              replace hx := Lib.hid hx
              go_wp2
              go_meet
              exact ⟨by rw [hX2.out], rfl⟩
          · have qN : ((N : Int) == 10) = false := beq_false_of_ne (by omega)
            have hX2 : Hid (X = false) := Lib.hid (by rw [hX, decide_eq_false hN]; simp)
            replace hX := Lib.hid hX
            replace hN := Lib.hid hN
            go_wp2
            go_meet
            exact ⟨by rw [hX2.out], rfl⟩
        case rest =>
          obtain ⟨rfl, rfl⟩ := hcut
          clear k2w HN
          replace hX := Lib.hid hX
          cases X
          · have EQ : Hid (R = EE) := Lib.hid (by rw [E.out]; rfl)
            go_wp2_with fail
            refine HA.out.mono ?_
            rintro e V1 ⟨lk, lsec, lf, lt, lm, ldk, ldn, ldw, lti, lrd, lof, lds, lab, rfl, hL, hb1⟩
            have hS1 := (h.alloc _).call hb1
            have hr0 : V1.heap[w.heap.size]? = some (.cells #[.int .i64 0, .int .i64 0, .int .i64 0, .int .i64 0, .int .i64 0, .int .i64 0, .int .i64 0, .int .i64 0, .int .i64 0, .int .i64 0, .int .i64 0, .bool false, .string ⟨#[]⟩] 49 (0, 0)) := (hb1.block _ (by simp)).trans (heap_alloc_new w _)
            have hS2 := hS1.setRow (k := w.heap.size) #[Value.int .i64 lk, Value.int .i64 lsec, Value.int .i64 lf, Value.int .i64 lt, Value.int .i64 lm, Value.int .i64 ldk, Value.int .i64 ldn, Value.int .i64 ldw, Value.int .i64 lti, Value.int .i64 lrd, Value.int .i64 lof, Value.bool lds, Value.string (bs lab)] (by have := h.lt; omega) (own_lt h.own (Nat.le_refl _)) h.sz
            have rr := setRow_heap V1 w.heap.size _ #[Value.int .i64 lk, Value.int .i64 lsec, Value.int .i64 lf, Value.int .i64 lt, Value.int .i64 lm, Value.int .i64 ldk, Value.int .i64 ldn, Value.int .i64 ldw, Value.int .i64 lti, Value.int .i64 lrd, Value.int .i64 lof, Value.bool lds, Value.string (bs lab)] _ _ hr0
            go_wp2_with (refine wpList_store_row (by rfl) 49 _ _ (by rfl) w.heap.size #[Value.int .i64 lk, Value.int .i64 lsec, Value.int .i64 lf, Value.int .i64 lt, Value.int .i64 lm, Value.int .i64 ldk, Value.int .i64 ldn, Value.int .i64 ldw, Value.int .i64 lti, Value.int .i64 lrd, Value.int .i64 lof, Value.bool lds, Value.string (bs lab)] (by rfl) (by rfl) _ _ hr0 (by kernel_rfl) (by rfl) (by simp [Value.oneCell']) ?_)
            generalize V1.setRow w.heap.size #[Value.int .i64 lk, Value.int .i64 lsec, Value.int .i64 lf, Value.int .i64 lt, Value.int .i64 lm, Value.int .i64 ldk, Value.int .i64 ldn, Value.int .i64 ldw, Value.int .i64 lti, Value.int .i64 lrd, Value.int .i64 lof, Value.bool lds, Value.string (bs lab)] = V2 at *
            obtain ⟨r_0, r_1, r_2, r_3, r_4, r_5, r_6, r_7, r_8, r_9, r_10, r_11, r_12⟩ := qv13 rr
            have c42 : V2.cell? ⟨zb, 4, none⟩ = some (.slice A0 z.lns.length k0) := by rw [Lib.cell_of_heap hS2.row]; rfl
            have f42 : V2.frozen? ⟨zb, 4, none⟩ = false := Lib.frozen_of_heap hS2.row 4
            have hov := hS2.own
            have hsz := hS2.sz
            have hlt4 := hS2.lt
            have HS := Lib.hid hS2
            clear hS1 hS2 hr0 hb1 HA
            replace h := Lib.hid h
            replace rr := Lib.hid rr
            go_region_law
              ((refine step_append_lies _ (by rfl) _ _ _ (by rfl) B 49 i0 (.agg #[.int .i64 0, .int .i64 0, .int .i64 0, .int .i64 0, .int .i64 0, .int .i64 0, .int .i64 0, .int .i64 0, .int .i64 0, .int .i64 0, .int .i64 0, .bool false, .string ⟨#[]⟩]) 13 112 Tryz.underlying24 hi hz0 hz1 hz2 rfl (by omega) (.slice A0 z.lns.length k0) z.lns.length (linVs z.lns) (by rfl) ((hov.alloc _).drew)
                  ⟨V2.heap.size, 0, none⟩ 1 1 [.int .i64 lk, .int .i64 lsec, .int .i64 lf, .int .i64 lt, .int .i64 lm, .int .i64 ldk, .int .i64 ldn, .int .i64 ldw, .int .i64 lti, .int .i64 lrd, .int .i64 lof, .bool lds, .string (bs lab)] (by rfl) (by rfl) (World.news_of_block (cs := #[.int .i64 lk, .int .i64 lsec, .int .i64 lf, .int .i64 lt, .int .i64 lm, .int .i64 ldk, .int .i64 ldn, .int .i64 ldw, .int .i64 lti, .int .i64 lrd, .int .i64 lof, .bool lds, .string (bs lab)]) (t := 49) (fr := (0, 0)) (heap_alloc_new V2 _)) (by simp [Value.oneCell'])
                  (by omega) (by unfold maxLen; omega) (by omega) (by simp; omega) (V2.heap.size + 1) (by simp) ?_; intro gg cap w1 hown1 hgrow hat hlt1; (have HT := Lib.hid (HS.out.drew.app (⟨lk, lsec, lf, lt, lm, ldk, ldn, ldw, lti, lrd, lof, lds, lab⟩ : Lin) hown1 hgrow)); (have d0 : w1.cell? ⟨zb, 4, none⟩ = some (.slice A0 z.lns.length k0) := by rw [Lib.cell_of_heap HT.out.1]; rfl); (have e0 : w1.frozen? ⟨zb, 4, none⟩ = false := Lib.frozen_of_heap HT.out.1 4)))
            all_goals
              go_wp2
              go_ret
              exact ⟨by rw [EQ.out]; rfl, HT.out.2.bel, fun e => ⟨_, by rw [← hL (EQ.out.symm.trans e)]; exact HT.out.2⟩⟩
          · have EQ : Hid (R = 1) := Lib.hid (by rw [E.out]; rfl)
            have hbel := Lib.hid (h.alloc (Obj.cells #[Value.int .i64 0, Value.int .i64 0, Value.int .i64 0, Value.int .i64 0, Value.int .i64 0, Value.int .i64 0, Value.int .i64 0, Value.int .i64 0, Value.int .i64 0, Value.int .i64 0, Value.int .i64 0, Value.bool false, Value.string ⟨#[]⟩] 49)).bel
            clear HA
            replace h := Lib.hid h
            go_wp2
            go_ret
            exact ⟨by rw [EQ.out]; rfl, hbel.out, fun e => absurd (EQ.out.symm.trans e) (by decide)⟩
      · have e2 : (wd ws 0 == [114, 117, 108, 101]) = false := beq_false_of_ne h2
        have E : lnE z.lns ws = 2 := by rw [hE, if_neg h1, if_neg h2]
        rw [E]
        have hbel := Lib.hid (h.alloc (Obj.cells #[Value.int .i64 0, Value.int .i64 0, Value.int .i64 0, Value.int .i64 0, Value.int .i64 0, Value.int .i64 0, Value.int .i64 0, Value.int .i64 0, Value.int .i64 0, Value.int .i64 0, Value.int .i64 0, Value.bool false, Value.string ⟨#[]⟩] 49)).bel
        clear hcell g0' E hE hRa hR hw hws
        replace h := Lib.hid h
        replace h1 := Lib.hid h1
        replace h2 := Lib.hid h2
        generalize wd ws 0 = x0 at *
        generalize ws.length = N at *
        go_enter Tryz.func58, Tryz.ntmps58
        go_wp2
        go_ret
        exact ⟨rfl, hbel.out, fun e => absurd e (by decide)⟩
end Go.Proofs.YtacpcjdiljnlaaaGreatDoor
namespace Go.Proofs.YtacpcjdiljnlaaaGreatDoor
set_option linter.unusedVariables false
set_option linter.unusedSimpArgs false
open Go.ChangeShapes Go.WideShapes Go.ChangeAt Go.RowKit
def lastW (T : List Tok) : Bool := match T.getLast? with | some t => t.1 != [10] | none => false
theorem lastW_snoc (T : List Tok) (t : Tok) : lastW (T ++ [t]) = (t.1 != [10]) := by unfold lastW; simp
def goodT (T : List Tok) : Prop := ∀ k (h : k < T.length), T[k].1 = [10] → lastW (T.take k) = true
theorem goodT_snoc {T : List Tok} {t : Tok} (h : goodT T) (ht : t.1 = [10] → lastW T = true) : goodT (T ++ [t]) := by
  intro k hk e
  by_cases hl : k < T.length
  · rw [List.getElem_append_left hl] at e
    rw [List.take_append_of_le_length (by omega)]
    exact h k hl e
  · obtain rfl : k = T.length := by simp at hk; omega
    rw [List.getElem_append_right (by omega)] at e
    simp only [Nat.sub_self, List.getElem_cons_zero] at e
    rw [List.take_left']
    · exact ht e
    · rfl
structure LxB (l : List UInt8) (S : LxS) : Prop where
  good : goodT S.out
  any : lastW S.out = S.any
  cur : ∀ c ∈ S.cur, c.toNat ≠ 10
  len : ∀ t ∈ S.out, t.1.length ≤ l.length + 1
  cl : S.cur.length ≤ l.length
theorem LxB.fl {l : List UInt8} {S : LxS} (h : LxB l S) : LxB l (lxFl S) := by
  by_cases hc : S.cur = []
  · have e : lxFl S = S := by cases S; simp only at hc; subst hc; simp [lxFl]
    rw [e]; exact h
  · have h10 : S.cur ≠ [10] := fun e => by have := h.cur 10 (by rw [e]; simp); exact this rfl
    have hs : S.cur.isEmpty = false := by simpa using hc
    refine ⟨?_, ?_, fun c hc => (by cases hc), ?_, Nat.zero_le _⟩
    · unfold lxFl; rw [if_neg hc]; exact goodT_snoc h.good (fun e => absurd e h10)
    · unfold lxFl; rw [if_neg hc]; show lastW (S.out ++ [(S.cur, S.ln)]) = _; rw [lastW_snoc, hs]; simpa using h10
    · intro t ht
      unfold lxFl at ht
      rw [if_neg hc] at ht
      have ht2 : t ∈ S.out ++ [(S.cur, S.ln)] := ht
      rw [List.mem_append, List.mem_singleton] at ht2
      rcases ht2 with ht2 | rfl
      · exact h.len t ht2
      · have := h.cl; show S.cur.length ≤ _; omega
theorem LxB.nl {l : List UInt8} {S : LxS} (h : LxB l S) : LxB l (lxNl S) := by
  have q := h.fl
  refine ⟨?_, ?_, fun c hc => (by cases hc), ?_, Nat.zero_le _⟩
  · unfold lxNl
    by_cases ha : (lxFl S).any = true
    · rw [if_pos ha]; exact goodT_snoc q.good (fun _ => q.any.trans ha)
    · rw [if_neg ha, List.append_nil]; exact q.good
  · unfold lxNl
    by_cases ha : (lxFl S).any = true
    · rw [if_pos ha]; show lastW ((lxFl S).out ++ [([10], S.ln)]) = false; rw [lastW_snoc]; rfl
    · rw [if_neg ha, List.append_nil]; show lastW (lxFl S).out = false; rw [q.any]; simpa using ha
  · intro t ht
    unfold lxNl at ht
    by_cases ha : (lxFl S).any = true
    · rw [if_pos ha] at ht
      have ht2 : t ∈ (lxFl S).out ++ [([10], S.ln)] := ht
      rw [List.mem_append, List.mem_singleton] at ht2
      rcases ht2 with ht2 | rfl
      · exact q.len t ht2
      · show 1 ≤ _; omega
    · rw [if_neg ha, List.append_nil] at ht
      exact q.len t ht
theorem LxB.more {l : List UInt8} {S : LxS} (h : LxB l S) (c : UInt8) : LxB (l ++ [c]) S := ⟨h.good, h.any, h.cur, fun t ht => by have := h.len t ht; simp; omega, by have := h.cl; simp; omega⟩
theorem lx_b (l : List UInt8) : LxB l (lxF l) := by
  induction l using snocInd with
  | h0 => exact ⟨fun k hk => (by simp [lxF, lx0] at hk), rfl, fun c hc => (by simp [lxF, lx0] at hc), fun t ht => (by simp [lxF, lx0] at ht), Nat.le_refl _⟩
  | h l c ih =>
    rw [lxF_snoc]
    generalize lxF l = S at *
    unfold lxStep
    split
    · exact ih.nl.more c
    · rename_i h10
      split
      · exact ih.more c
      · split
        · have q := ih.fl.more c; exact ⟨q.good, q.any, q.cur, q.len, q.cl⟩
        · split
          · exact ih.fl.more c
          · have q := ih.more c
            refine ⟨q.good, q.any, ?_, q.len, ?_⟩
            · intro x hx
              have hx2 : x ∈ S.cur ++ [c] := hx
              rw [List.mem_append, List.mem_singleton] at hx2
              rcases hx2 with hx2 | rfl
              · exact ih.cur x hx2
              · exact h10
            · have := ih.cl; show (S.cur ++ [c]).length ≤ _; simp; omega
theorem tok_b (l : List UInt8) : goodT (tokL l) ∧ ∀ t ∈ tokL l, t.1.length ≤ l.length + 1 := by
  have := (lx_b l).nl
  rw [tokL_lx]
  exact ⟨this.good, this.len⟩
theorem lex_b (l : List UInt8) (h : lexE l = 0) : goodT (lexT l) ∧ (∀ t ∈ lexT l, t.1.length ≤ 100000) ∧ (lexT l).length ≤ 1024 := by
  have e : lexT l = tokL l := if_pos h
  have h1 : ¬ 4096 < l.length := by
    intro h2
    have := (lex_big h2).1
    omega
  have h2 : ¬ 1024 < (tokL l).length := by
    intro h2
    have := (lex_many h1 h2).1
    omega
  obtain ⟨b1, b2⟩ := tok_b l
  rw [e]
  exact ⟨b1, fun t ht => by have := b2 t ht; omega, by omega⟩
theorem SrH.other {B : Nat} {w0 w w1 : World} {zb : Nat} {z : Src} {v : Value} (h : SrH B w0 w zb z v) {x : Obj} {u : Value} {n : Nat} {xs : List Value} (hu : w.ownsRow B 9 1 u n xs) (hg : (w.alloc x).grownBy w1 u.ownBlock) : SrH B w0 w1 zb z v := by
  have keep : ∀ k, k < w.heap.size → u.ownBlock ≠ some k → w1.heap[k]? = w.heap[k]? := fun k hk hne => app_keep hg hk hne
  have uz : u.ownBlock ≠ some zb := own_kind hu h.row (fun c fz e => by injection e with _ e2; exact absurd e2 (by decide))
  have hs := hg.size
  have hs2 : (w.alloc x).heap.size = w.heap.size + 1 := by simp
  have hs3 := h.sz
  refine ⟨(keep zb h.lt uz).trans h.row, own_stay h.own (fun g hg2 => ?_), h.bz, bel_append h.bel h.sz hu hg, by omega⟩
  obtain ⟨c2, f2, h2⟩ := own_some h.own hg2
  exact keep g (Array.getElem?_eq_some_iff.1 h2).1 (own_kind hu h2 (fun c fz e => by injection e with _ e2; exact absurd e2 (by decide)))
end Go.Proofs.YtacpcjdiljnlaaaGreatDoor
namespace Go.Proofs.YtacpcjdiljnlaaaGreatDoor
set_option linter.unusedVariables false
set_option linter.unusedSimpArgs false
open Go.ChangeShapes Go.WideShapes Go.ChangeAt Go.RowKit
theorem src_bad (k E : Int) {R : Src × Int × Int} (hR : R = (src0, k, E)) {w w' : World} (hb : Below w.heap.size w w') :
    RetSrc R.1 R.2.1 R.2.2 w (.returned (.tuple #[.agg #[.string ⟨#[]⟩, .int .i64 0, .bool false, .string ⟨#[]⟩, .slice none 0 0], .int .i64 k, .int .i64 E])) w' := by
  subst hR
  refine ⟨none, 0, ?_, fun j u hu => (by simp [linVs, src0] at hu), hb⟩
  show _ = Ending.returned (.tuple #[.agg #[.string (bs []), .int .i64 0, .bool false, .string (bs []), .slice none 0 0], .int .i64 k, .int .i64 E])
  rw [bs_empty]
theorem stE_lt {z : Src} {n : Nat} {ws : List (List UInt8)} (h : n < 2) : stE z n ws = hdE n ws := if_pos h
theorem stS_lt {z : Src} {n : Nat} {ws : List (List UInt8)} (h : n < 2) : stS z n ws = hdS z n ws := if_pos h
theorem stE_ge {z : Src} {n : Nat} {ws : List (List UInt8)} (h : ¬ n < 2) : stE z n ws = lnE z.lns ws := if_neg h
theorem stS_ge {z : Src} {n : Nat} {ws : List (List UInt8)} (h : ¬ n < 2) : stS z n ws = { z with lns := z.lns ++ [lnL ws] } := if_neg h
theorem hdS_lns (z : Src) (n : Nat) (ws : List (List UInt8)) : (hdS z n ws).lns = z.lns := by unfold hdS; split <;> rfl
theorem lnE_len {ls : List Lin} {ws : List (List UInt8)} (h : lnE ls ws = 0) : ls.length < 16 := by
  by_cases h16 : 16 ≤ ls.length
  · have : lnE ls ws = 1 := if_pos h16
    omega
  · omega
set_option maxHeartbeats 12800000 in
set_option maxRecDepth 100000 in
theorem rParse15_any (L : List UInt8) (w : World) : Calls Tryz.prog 31 #[.string (bs L)] w (RetSrc (prsR L).1 (prsR L).2.1 (prsR L).2.2 w) := by
  have HX := Lib.hid (rLexA_any L)
  by_cases hE : lexE L = 0
  · obtain ⟨hgood, hlen, hTl⟩ := lex_b L hE
    have hP : Hid (prsR L = prsT (lexT L) src0 0 []) := Lib.hid (if_neg (by rw [hE]; decide))
    rw [hE] at HX
    generalize prsR L = R at *
    generalize lexT L = T at *
    go_enter Tryz.func31, Tryz.ntmps31
    refine wp_shut ?_
    go_wp2_with fail
    refine (HX.out _).mono ?_
    rintro e w1 ⟨tv, rfl, hown, hb1⟩
    have hrb : Hid (w1.heap[w.heap.size]? = some (.cells #[.string ⟨#[]⟩, .int .i64 0, .bool false, .string ⟨#[]⟩, .slice none 0 0] 26 (0, 0))) := Lib.hid ((hb1.block _ (by simp)).trans (heap_alloc_new w _))
    have hbw : Hid (Below w.heap.size w w1) := Lib.hid (((Below.refl _ w).alloc (Nat.le_refl _) _).trans (hb1.mono (by simp)))
    have hsw : w.heap.size < w1.heap.size := by have := hb1.size; simp at this; omega
    obtain ⟨TA, tc, tg, rfl, -⟩ := own_form hown
    have hRT := Lib.hid (Rd.own hown)
    have hTne := Lib.hid (own_kind hown hrb.out (fun c fz e => by injection e with _ e2; exact absurd e2 (by decide)))
    clear hown hb1 HX
    go_simp
    go_wp2
    go_loopw [8, 9, 10] (fun nv wv i wr => ∃ (k nn : Nat) (ws : List (List UInt8)) (z : Src) (v : Value), k ≤ T.length ∧ i = .int .i64 (k : Int) ∧ nv = .int .i64 (nn : Int) ∧ nn ≤ k ∧ SrH w1.heap.size w1 wr w1.heap.size z v ∧ wr.ownsRow w1.heap.size 9 1 wv ws.length (ws.map strV) ∧ Hid (prsT (T.drop k) z nn ws = prsT T src0 0 []) ∧ Hid (lastW (T.take k) = !ws.isEmpty) ∧ Hid (∀ x ∈ ws, x.length ≤ 100000) ∧ z.lns.length ≤ 16 ∧ ws.length ≤ k) (fun _ _ i _ => T.length - (intOf i).toNat)
    case atStart =>
      refine ⟨0, 0, [], src0, .slice none 0 0, by omega, rfl, rfl, Nat.le_refl _, ?_, World.ownsRow_nil _ _ _ _, Lib.hid rfl, Lib.hid rfl, Lib.hid (fun x hx => by cases hx), by simp [src0], Nat.le_refl _⟩
      refine ⟨?_, World.ownsRow_nil _ _ _ _, Nat.le_refl _, (Below.refl _ _).alloc (Nat.le_refl _) _, by simp⟩
      refine (heap_alloc_new w1 _).trans ?_
      rw [show src0.nam = [] from rfl, show src0.abb = [] from rfl, bs_empty]
      rfl
    case round =>
      obtain ⟨k, nn, ws, z, v, hk, rfl, rfl, hnk, hS, hwo, hpr, hlw, hwl, hzl, hwk⟩ := hrel
      have hz1 : w1.heap.size ≤ w1.heap.size := Nat.le_refl _
      by_cases hlt : k < T.length
      · have hgk := hgood k hlt
        have hdr : T.drop k = T[k] :: T.drop (k + 1) := List.drop_eq_getElem_cons hlt
        obtain ⟨tb, tof, rfl, htb, htc⟩ := hRT.out.tok hlt
        have htk : wr.cell? ⟨tb, tof + k * 2, none⟩ = some (.string (bs T[k].1)) := (World.cell?_of_block (a := ⟨tb, tof + k * 2, none⟩) (hS.bel.block tb htb)).trans (htc k hlt).1
        have htl : Hid (∀ V, Below w1.heap.size w1 V → V.cell? ⟨tb, tof + k * 2 + 1, none⟩ = some (.int .i64 T[k].2)) := Lib.hid (fun V hV => (World.cell?_of_block (a := ⟨tb, tof + k * 2 + 1, none⟩) (hV.block tb htb)).trans (htc k hlt).2)
        have htlen := hlen T[k] (by simp)
        have htake : T.take (k + 1) = T.take k ++ [T[k]] := List.take_succ_eq_append_getElem hlt
        have hlast : lastW (T.take (k + 1)) = (T[k].1 != [10]) := by rw [htake]; exact lastW_snoc _ _
        rw [hdr] at hpr
        clear htc hdr htake
        generalize hTk : T[k] = tk at *
        obtain ⟨t, ln⟩ := tk
        simp only at htk htl htlen hlast hgk
        have lt := bs_list t
        obtain ⟨WA, wc, wg, rfl, -⟩ := own_form hwo
        have hkT : (k : Int) < (T.length : Int) := by omega
        have hk0 : (0 : Int) ≤ (k : Int) := by omega
        replace hTk := Lib.hid hTk
        by_cases h10 : t = [10]
        · have e1 : (t == [10]) = true := by rw [h10]; rfl
          have hne : ws ≠ [] := by
            intro e
            have := hgk h10
            rw [hlw.out, e] at this
            cases this
          have hlast2 : Hid (lastW (T.take (k + 1)) = false) := Lib.hid (by rw [hlast, h10]; rfl)
          have hpr2 : Hid (prsT (([10], ln) :: T.drop (k + 1)) z nn ws = prsT T src0 0 []) := Lib.hid (by rw [← h10]; exact hpr.out)
          replace h10 := Lib.hid h10
          replace hgk := Lib.hid hgk
          replace hlast := Lib.hid hlast
          have hwc : ws.length ≤ wc := by
            rcases hwo.2 with ⟨_, h0⟩ | ⟨g, cap, cur, hv, _, _, hnc, _⟩
            · omega
            · injection hv with _ _ h3; omega
          have hRw : Rd wr WA (ws.map strV) := Rd.own hwo
          have hwz : ∀ b o, WA = some ⟨b, o, none⟩ → b ≠ w1.heap.size := fun b o e => by
            have := own_kind hwo hS.row (fun c fz e => by injection e with _ e2; exact absurd e2 (by decide))
            intro e2
            apply this
            rw [e]
            simp [Value.ownBlock, e2]
          have hrbk := hrb.out
          by_cases hn2 : nn < 2
          · have hq2 : ((nn : Int) < 2) := by omega
            have HH := Lib.hid (rHead_any nn ws hne hwl.out WA wc hRw hwz hS)
            rw [← stE_lt (z := z) hn2, ← stS_lt hn2] at HH
            have hzl2 : (stS z nn ws).lns.length ≤ 16 := by rw [stS_lt hn2, hdS_lns]; exact hzl
            clear hwo hRw hwz hS hpr hlw hwl
            go_wp2_with fail
            refine HH.out.mono ?_
            rintro e V2 ⟨rfl, hbel2, hS2⟩
            by_cases hE0 : stE z nn ws = 0
            · have hS3 := Lib.hid (hS2 hE0)
              have hpr3 : Hid (prsT (T.drop (k + 1)) (stS z nn ws) (nn + 1) [] = prsT T src0 0 []) := Lib.hid (by rw [← prsT_line hE0]; exact hpr2.out)
              have e2 : (stE z nn ws != 0) = false := by rw [hE0]; rfl
              clear hS2 HH hbel2
              rw [hE0]
              go_wp2
              go_roundw
              case rel => exact ⟨k + 1, nn + 1, [], stS z nn ws, _, by omega, by go_num, by go_num, by omega, hS3.out, World.ownsRow_nil _ _ _ _, hpr3, Lib.hid (by rw [hlast2.out]; rfl), Lib.hid (fun x hx => (by cases hx)), hzl2, by simp⟩
              case measure => simp [intOf]; omega
            · have e2 : (stE z nn ws != 0) = true := bne_iff_ne.2 hE0
              have hR : Hid (R = (src0, ln, stE z nn ws)) := Lib.hid (by rw [hP.out, ← hpr2.out]; exact prsT_err hE0)
              have hline : V2.cell? ⟨tb, tof + k * 2 + 1, none⟩ = some (.int .i64 ln) := htl.out V2 hbel2
              have hrb2 : V2.heap[w.heap.size]? = some (.cells #[.string ⟨#[]⟩, .int .i64 0, .bool false, .string ⟨#[]⟩, .slice none 0 0] 26 (0, 0)) := (hbel2.block _ hsw).trans hrbk
              have hbf := Lib.hid (hbw.out.trans (hbel2.mono (Nat.le_of_lt hsw)))
              clear hS2 HH hbel2
              generalize stE z nn ws = EE at *
              have z0 : V2.cell? ⟨w.heap.size, 0, none⟩ = some (.string ⟨#[]⟩) := by rw [Lib.cell_of_heap hrb2]; rfl
              have z1 : V2.cell? ⟨w.heap.size, 1, none⟩ = some (.int .i64 0) := by rw [Lib.cell_of_heap hrb2]; rfl
              have z2 : V2.cell? ⟨w.heap.size, 2, none⟩ = some (.bool false) := by rw [Lib.cell_of_heap hrb2]; rfl
              have z3 : V2.cell? ⟨w.heap.size, 3, none⟩ = some (.string ⟨#[]⟩) := by rw [Lib.cell_of_heap hrb2]; rfl
              have z4 : V2.cell? ⟨w.heap.size, 4, none⟩ = some (.slice none 0 0) := by rw [Lib.cell_of_heap hrb2]; rfl
              have y0 : V2.frozen? ⟨w.heap.size, 0, none⟩ = false := Lib.frozen_of_heap hrb2 0
              have y1 : V2.frozen? ⟨w.heap.size, 1, none⟩ = false := Lib.frozen_of_heap hrb2 1
              have y2 : V2.frozen? ⟨w.heap.size, 2, none⟩ = false := Lib.frozen_of_heap hrb2 2
              have y3 : V2.frozen? ⟨w.heap.size, 3, none⟩ = false := Lib.frozen_of_heap hrb2 3
              have y4 : V2.frozen? ⟨w.heap.size, 4, none⟩ = false := Lib.frozen_of_heap hrb2 4
              go_wp2_with fail
              have htne : tb ≠ w.heap.size := fun e => hTne.out (by simp [Value.ownBlock, e])
              have hl5 : (((((V2.setCell ⟨w.heap.size, 0, none⟩ (.string ⟨#[]⟩)).setCell ⟨w.heap.size, 1, none⟩ (.int .i64 0)).setCell ⟨w.heap.size, 2, none⟩ (.bool false)).setCell ⟨w.heap.size, 3, none⟩ (.string ⟨#[]⟩)).setCell ⟨w.heap.size, 4, none⟩ (.slice none 0 0)).cell? ⟨tb, tof + k * 2 + 1, none⟩ = some (.int .i64 ln) := cell_far1 htne (cell_far1 htne (cell_far1 htne (cell_far1 htne (cell_far1 htne hline))))
              have hb5 : Hid (Below w.heap.size w (((((V2.setCell ⟨w.heap.size, 0, none⟩ (.string ⟨#[]⟩)).setCell ⟨w.heap.size, 1, none⟩ (.int .i64 0)).setCell ⟨w.heap.size, 2, none⟩ (.bool false)).setCell ⟨w.heap.size, 3, none⟩ (.string ⟨#[]⟩)).setCell ⟨w.heap.size, 4, none⟩ (.slice none 0 0))) := Lib.hid (((((hbf.out.setCell (by exact Nat.le_refl _) _).setCell (by exact Nat.le_refl _) _).setCell (by exact Nat.le_refl _) _).setCell (by exact Nat.le_refl _) _).setCell (by exact Nat.le_refl _) _)
              go_region
              all_goals go_wp2
              all_goals refine shut_ret (v := .tuple #[.agg #[.string ⟨#[]⟩, .int .i64 0, .bool false, .string ⟨#[]⟩, .slice none 0 0], .int .i64 ln, .int .i64 EE]) (by simp [results, Tryz.results31, go_sem, z0, z1, z2, z3, z4]) rfl ?_
              all_goals first | exact src_bad ln EE hR.out hb5.out.drew | exact src_bad ln EE hR.out hb5.out | trace_state
          · have hq2 : ¬ ((nn : Int) < 2) := by omega
            have HH := Lib.hid (rLine15_any ws hne hwl.out WA wc hwc hRw hS (by omega))
            rw [← stE_ge (n := nn) hn2, ← stS_ge hn2] at HH
            clear hwo hRw hwz hS hpr hlw hwl
            go_wp2_with fail
            refine HH.out.mono ?_
            rintro e V2 ⟨rfl, hbel2, hS2⟩
            by_cases hE0 : stE z nn ws = 0
            · obtain ⟨v3, hS3'⟩ := hS2 hE0
              have hS3 := Lib.hid hS3'
              have hzl2 : (stS z nn ws).lns.length ≤ 16 := by
                have hE1 := hE0
                rw [stE_ge hn2] at hE1
                have := lnE_len hE1
                rw [stS_ge hn2]; simp; omega
              have hpr3 : Hid (prsT (T.drop (k + 1)) (stS z nn ws) (nn + 1) [] = prsT T src0 0 []) := Lib.hid (by rw [← prsT_line hE0]; exact hpr2.out)
              have e2 : (stE z nn ws != 0) = false := by rw [hE0]; rfl
              clear hS2 HH hbel2
              rw [hE0]
              go_wp2
              go_roundw
              case rel => exact ⟨k + 1, nn + 1, [], stS z nn ws, _, by omega, by go_num, by go_num, by omega, hS3.out, World.ownsRow_nil _ _ _ _, hpr3, Lib.hid (by rw [hlast2.out]; rfl), Lib.hid (fun x hx => (by cases hx)), hzl2, by simp⟩
              case measure => simp [intOf]; omega
            · have e2 : (stE z nn ws != 0) = true := bne_iff_ne.2 hE0
              have hR : Hid (R = (src0, ln, stE z nn ws)) := Lib.hid (by rw [hP.out, ← hpr2.out]; exact prsT_err hE0)
              have hline : V2.cell? ⟨tb, tof + k * 2 + 1, none⟩ = some (.int .i64 ln) := htl.out V2 hbel2
              have hrb2 : V2.heap[w.heap.size]? = some (.cells #[.string ⟨#[]⟩, .int .i64 0, .bool false, .string ⟨#[]⟩, .slice none 0 0] 26 (0, 0)) := (hbel2.block _ hsw).trans hrbk
              have hbf := Lib.hid (hbw.out.trans (hbel2.mono (Nat.le_of_lt hsw)))
              clear hS2 HH hbel2
              generalize stE z nn ws = EE at *
              have z0 : V2.cell? ⟨w.heap.size, 0, none⟩ = some (.string ⟨#[]⟩) := by rw [Lib.cell_of_heap hrb2]; rfl
              have z1 : V2.cell? ⟨w.heap.size, 1, none⟩ = some (.int .i64 0) := by rw [Lib.cell_of_heap hrb2]; rfl
              have z2 : V2.cell? ⟨w.heap.size, 2, none⟩ = some (.bool false) := by rw [Lib.cell_of_heap hrb2]; rfl
              have z3 : V2.cell? ⟨w.heap.size, 3, none⟩ = some (.string ⟨#[]⟩) := by rw [Lib.cell_of_heap hrb2]; rfl
              have z4 : V2.cell? ⟨w.heap.size, 4, none⟩ = some (.slice none 0 0) := by rw [Lib.cell_of_heap hrb2]; rfl
              have y0 : V2.frozen? ⟨w.heap.size, 0, none⟩ = false := Lib.frozen_of_heap hrb2 0
              have y1 : V2.frozen? ⟨w.heap.size, 1, none⟩ = false := Lib.frozen_of_heap hrb2 1
              have y2 : V2.frozen? ⟨w.heap.size, 2, none⟩ = false := Lib.frozen_of_heap hrb2 2
              have y3 : V2.frozen? ⟨w.heap.size, 3, none⟩ = false := Lib.frozen_of_heap hrb2 3
              have y4 : V2.frozen? ⟨w.heap.size, 4, none⟩ = false := Lib.frozen_of_heap hrb2 4
              go_wp2_with fail
              have htne : tb ≠ w.heap.size := fun e => hTne.out (by simp [Value.ownBlock, e])
              have hl5 : (((((V2.setCell ⟨w.heap.size, 0, none⟩ (.string ⟨#[]⟩)).setCell ⟨w.heap.size, 1, none⟩ (.int .i64 0)).setCell ⟨w.heap.size, 2, none⟩ (.bool false)).setCell ⟨w.heap.size, 3, none⟩ (.string ⟨#[]⟩)).setCell ⟨w.heap.size, 4, none⟩ (.slice none 0 0)).cell? ⟨tb, tof + k * 2 + 1, none⟩ = some (.int .i64 ln) := cell_far1 htne (cell_far1 htne (cell_far1 htne (cell_far1 htne (cell_far1 htne hline))))
              have hb5 : Hid (Below w.heap.size w (((((V2.setCell ⟨w.heap.size, 0, none⟩ (.string ⟨#[]⟩)).setCell ⟨w.heap.size, 1, none⟩ (.int .i64 0)).setCell ⟨w.heap.size, 2, none⟩ (.bool false)).setCell ⟨w.heap.size, 3, none⟩ (.string ⟨#[]⟩)).setCell ⟨w.heap.size, 4, none⟩ (.slice none 0 0))) := Lib.hid (((((hbf.out.setCell (by exact Nat.le_refl _) _).setCell (by exact Nat.le_refl _) _).setCell (by exact Nat.le_refl _) _).setCell (by exact Nat.le_refl _) _).setCell (by exact Nat.le_refl _) _)
              go_region
              all_goals go_wp2
              all_goals refine shut_ret (v := .tuple #[.agg #[.string ⟨#[]⟩, .int .i64 0, .bool false, .string ⟨#[]⟩, .slice none 0 0], .int .i64 ln, .int .i64 EE]) (by simp [results, Tryz.results31, go_sem, z0, z1, z2, z3, z4]) rfl ?_
              all_goals first | exact src_bad ln EE hR.out hb5.out.drew | exact src_bad ln EE hR.out hb5.out | trace_state
        · have e1 : (t == [10]) = false := beq_false_of_ne h10
          obtain ⟨i1, hi, hz0, hz1, hz2⟩ := info_parts infoStr
          have hlast2 : Hid (lastW (T.take (k + 1)) = true) := Lib.hid (by rw [hlast]; exact bne_iff_ne.2 h10)
          have hpr2 : Hid (prsT (T.drop (k + 1)) z nn (ws ++ [t]) = prsT T src0 0 []) := Lib.hid (by rw [← prsT_word h10]; exact hpr.out)
          have hwl2 : Hid (∀ x ∈ ws ++ [t], x.length ≤ 100000) := Lib.hid (fun x hx => by
            rw [List.mem_append, List.mem_singleton] at hx
            rcases hx with hx | rfl
            · exact hwl.out x hx
            · exact htlen)
          have hsr := hS.sz
          replace h10 := Lib.hid h10
          replace hgk := Lib.hid hgk
          replace hlast := Lib.hid hlast
          replace hS := Lib.hid hS
          clear hpr hlw hwl
          go_wp2_with (first
            | (at_builtin
               refine wpList_append_lies _ rfl (.tmp 34) (.tmp 40) 95 rfl w1.heap.size 9 i1 (.string ⟨#[]⟩) 1 16 Tryz.underlying95 hi hz0 hz1 hz2 rfl (by decide) _ _ _ rfl (hwo.alloc _) ⟨wr.heap.size, 0, none⟩ 1 1 [.string (bs t)] rfl rfl (news1 _ _ _) (one1 rfl) (by decide) (by unfold maxLen; omega) (by omega) (by simp; omega) _ rfl ?_
               intro g cap w3 hown1 hgrow hat hlt1)
            | fail)
          have hS3 := hS.out.other hwo hgrow
          have hw3 : w3.ownsRow w1.heap.size 9 1 (.slice (some ⟨g, 0, none⟩) (ws.length + 1) cap) (ws ++ [t]).length ((ws ++ [t]).map strV) := by
            rw [List.map_append, List.length_append]; exact hown1
          replace hS3 := Lib.hid hS3
          replace hw3 := Lib.hid hw3
          clear hown1 hgrow hat hlt1 hwo hS
          go_wp2
          go_roundw
          case rel => exact ⟨k + 1, nn, ws ++ [t], z, v, by omega, by go_num, rfl, by omega, hS3.out, hw3.out, hpr2, Lib.hid (by rw [hlast2.out]; simp), hwl2, hzl, by simp; omega⟩
          case measure => simp [intOf]; omega
      · obtain rfl : k = T.length := by omega
        rw [List.drop_length] at hpr
        have hrbk : wr.heap[w.heap.size]? = some (.cells #[.string ⟨#[]⟩, .int .i64 0, .bool false, .string ⟨#[]⟩, .slice none 0 0] 26 (0, 0)) := (hS.bel.block _ hsw).trans hrb.out
        have hkT : ¬ ((T.length : Int) < (T.length : Int)) := by omega
        by_cases hn2 : nn < 2
        · have hq2 : ((nn : Int) < 2) := by omega
          have hR : Hid (R = (src0, 0, 2)) := Lib.hid (by rw [hP.out, ← hpr.out]; exact if_pos hn2)
          have hbf := Lib.hid (hbw.out.trans (hS.bel.mono (Nat.le_of_lt hsw)))
          clear hS hwo hpr hlw hwl
          have rr := setRow_heap wr w.heap.size _ #[Value.string ⟨#[]⟩, Value.int .i64 0, Value.bool false, Value.string ⟨#[]⟩, Value.slice none 0 0] _ _ hrbk
          obtain ⟨r_0, r_1, r_2, r_3, r_4⟩ := qv5 rr
          go_wp2_with (refine wpList_store_row (by rfl) 26 _ _ (by rfl) w.heap.size #[Value.string ⟨#[]⟩, Value.int .i64 0, Value.bool false, Value.string ⟨#[]⟩, Value.slice none 0 0] (by rfl) (by rfl) _ _ hrbk (by kernel_rfl) (by rfl) (by simp [Value.oneCell']) ?_)
          refine shut_ret (v := .tuple #[.agg #[.string ⟨#[]⟩, .int .i64 0, .bool false, .string ⟨#[]⟩, .slice none 0 0], .int .i64 0, .int .i64 2]) (by simp [results, Tryz.results31, go_sem, r_0, r_1, r_2, r_3, r_4]) rfl ?_
          exact src_bad 0 2 hR.out (keepRow hbf.out (Nat.le_refl _) _)
        · have hq2 : ¬ ((nn : Int) < 2) := by omega
          have hR : Hid (R = (z, 0, 0)) := Lib.hid (by rw [hP.out, ← hpr.out]; exact if_neg hn2)
          have hbf := Lib.hid (hbw.out.trans (hS.bel.mono (Nat.le_of_lt hsw)))
          obtain ⟨VA, vc, vg, rfl, -⟩ := own_form hS.own
          have s0 : wr.cell? ⟨w1.heap.size, 0, none⟩ = some (.string (bs z.nam)) := by rw [Lib.cell_of_heap hS.row]; rfl
          have s1 : wr.cell? ⟨w1.heap.size, 1, none⟩ = some (.int .i64 z.off) := by rw [Lib.cell_of_heap hS.row]; rfl
          have s2 : wr.cell? ⟨w1.heap.size, 2, none⟩ = some (.bool z.dst) := by rw [Lib.cell_of_heap hS.row]; rfl
          have s3 : wr.cell? ⟨w1.heap.size, 3, none⟩ = some (.string (bs z.abb)) := by rw [Lib.cell_of_heap hS.row]; rfl
          have s4 : wr.cell? ⟨w1.heap.size, 4, none⟩ = some (.slice VA z.lns.length vc) := by rw [Lib.cell_of_heap hS.row]; rfl
          have hfin : Hid (∀ cs, Rd (wr.setRow w.heap.size cs) VA (linVs z.lns)) := Lib.hid (fun cs => Rd.own (own_stay hS.own (fun g hg => row_otherR (fun e => by
            have h1 := (hS.own.lt g hg).1
            omega) rfl cs)))
          clear hS hwo hpr hlw hwl
          have rr := setRow_heap wr w.heap.size _ #[Value.string (bs z.nam), Value.int .i64 z.off, Value.bool z.dst, Value.string (bs z.abb), Value.slice VA z.lns.length vc] _ _ hrbk
          obtain ⟨r_0, r_1, r_2, r_3, r_4⟩ := qv5 rr
          go_wp2_with (refine wpList_store_row (by rfl) 26 _ _ (by rfl) w.heap.size #[Value.string (bs z.nam), Value.int .i64 z.off, Value.bool z.dst, Value.string (bs z.abb), Value.slice VA z.lns.length vc] (by rfl) (by rfl) _ _ hrbk (by kernel_rfl) (by rfl) (by simp [Value.oneCell']) ?_)
          refine shut_ret (v := .tuple #[.agg #[.string (bs z.nam), .int .i64 z.off, .bool z.dst, .string (bs z.abb), .slice VA z.lns.length vc], .int .i64 0, .int .i64 0]) (by simp [results, Tryz.results31, go_sem, r_0, r_1, r_2, r_3, r_4]) rfl ?_
          rw [hR.out]
          exact ⟨VA, vc, rfl, hfin.out _, keepRow hbf.out (Nat.le_refl _) _⟩
  · have f1 : (lexE L != 0) = true := bne_iff_ne.2 hE
    have hP : Hid (prsR L = (src0, 0, lexE L)) := Lib.hid (if_pos hE)
    generalize lexE L = E at *
    generalize prsR L = R at *
    generalize lexT L = T at *
    replace hE := Lib.hid hE
    go_enter Tryz.func31, Tryz.ntmps31
    refine wp_shut ?_
    go_wp2_with fail
    refine (HX.out _).mono ?_
    rintro e w1 ⟨tv, rfl, hown, hb1⟩
    have hrb : w1.heap[w.heap.size]? = some (.cells #[.string ⟨#[]⟩, .int .i64 0, .bool false, .string ⟨#[]⟩, .slice none 0 0] 26 (0, 0)) := (hb1.block _ (by simp)).trans (heap_alloc_new w _)
    have hbw : Hid (Below w.heap.size w w1) := Lib.hid (((Below.refl _ w).alloc (Nat.le_refl _) _).trans (hb1.mono (by simp)))
    clear hown hb1 HX
    go_simp
    have rr := setRow_heap w1 w.heap.size _ #[Value.string ⟨#[]⟩, Value.int .i64 0, Value.bool false, Value.string ⟨#[]⟩, Value.slice none 0 0] _ _ hrb
    obtain ⟨r_0, r_1, r_2, r_3, r_4⟩ := qv5 rr
    go_wp2_with (refine wpList_store_row (by rfl) 26 _ _ (by rfl) w.heap.size #[Value.string ⟨#[]⟩, Value.int .i64 0, Value.bool false, Value.string ⟨#[]⟩, Value.slice none 0 0] (by rfl) (by rfl) _ _ hrb (by kernel_rfl) (by rfl) (by simp [Value.oneCell']) ?_)
    refine shut_ret (v := .tuple #[.agg #[.string ⟨#[]⟩, .int .i64 0, .bool false, .string ⟨#[]⟩, .slice none 0 0], .int .i64 0, .int .i64 E]) (by simp [results, Tryz.results31, go_sem, r_0, r_1, r_2, r_3, r_4]) rfl ?_
    exact src_bad 0 E hP.out (keepRow hbw.out (Nat.le_refl _) _)
end Go.Proofs.YtacpcjdiljnlaaaGreatDoor
