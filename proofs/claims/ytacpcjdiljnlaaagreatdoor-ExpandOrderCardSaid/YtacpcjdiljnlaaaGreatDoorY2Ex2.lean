/- Several texts in one: ExL. -/
import Derived.Test.YtacpcjdiljnlaaaGreatDoorY2Sm
import Derived.Test.YtacpcjdiljnlaaaGreatDoorY2Ex1
import Derived.Test.YtacpcjdiljnlaaaGreatDoorY2Rul2
import Derived.Test.YtacpcjdiljnlaaaGreatDoorY2Ep3
import Derived.Test.YtacpcjdiljnlaaaGreatDoorY2Rd21
namespace Go.Proofs.YtacpcjdiljnlaaaGreatDoor
set_option linter.unusedVariables false
set_option linter.unusedSimpArgs false
open Go.ChangeShapes Go.WideShapes Go.ChangeAt Go.RowKit
set_option maxHeartbeats 1600000 in
theorem rFew17_any (z : Src) (A : Option Addr) (c : Nat) (hT : z.lns.length ≤ 9223372036854775807) (w : World) : Calls Tryz.prog 7 #[srcV z A c] w fun e w' => e = .returned (.bool (decide (z.lns.length ≤ 100))) ∧ Below w.heap.size w w' := by
  obtain ⟨nam, off, dst, abb, ls⟩ := z
  unfold srcV
  simp only at *
  have e : decide ((ls.length : Int) ≤ 100) = decide (ls.length ≤ 100) := by rw [Bool.eq_iff_iff]; simp; omega
  by_cases h : ls.length ≤ 100
  · have E : Hid (decide (ls.length ≤ 100) = true) := Lib.hid (decide_eq_true h)
    have d : decide ((ls.length : Int) ≤ 100) = true := by rw [e]; exact E.out
    clear e
    go_enter Tryz.func7, Tryz.ntmps7
    go_wp2
    go_ret
    exact ⟨by rw [E.out]; first | rfl | simp, by go_grown⟩
  · have E : Hid (decide (ls.length ≤ 100) = false) := Lib.hid (decide_eq_false h)
    have d : decide ((ls.length : Int) ≤ 100) = false := by rw [e]; exact E.out
    clear e
    go_enter Tryz.func7, Tryz.ntmps7
    go_wp2
    go_ret
    exact ⟨by rw [E.out]; first | rfl | simp, by go_grown⟩
theorem rd_setRow {w : World} {A : Option Addr} {xs : List Value} (h : Rd w A xs) {k : Nat} (hne : ∀ b o, A = some ⟨b, o, none⟩ → b ≠ k) (ob : Obj) (cs : Array Value) : Rd ((w.alloc ob).setRow k cs) A xs := by
  intro j u hu
  obtain ⟨b, o, hA, hb, hc⟩ := h j u hu
  have hsz : w.heap.size ≤ ((w.alloc ob).setRow k cs).heap.size := by
    have h1 := (keepRow (n := 0) (k := k) (Below.refl 0 (w.alloc ob)) (Nat.zero_le _) cs).size
    have h2 : (w.alloc ob).heap.size = w.heap.size + 1 := by simp
    omega
  refine ⟨b, o, hA, by omega, ?_⟩
  have hrow : ((w.alloc ob).setRow k cs).heap[b]? = w.heap[b]? := row_otherR (hne b o hA) (Below.heap_alloc w ob b hb) cs
  rw [← hc]
  exact World.cell?_of_block (w := w) hrow
set_option maxHeartbeats 3200000 in
set_option maxRecDepth 100000 in
theorem rLand17_any (w : World) : Calls Tryz.prog 17 #[] w fun e w' => ∃ (A : Option Addr) (c : Nat), e = .returned (.agg #[.string (bs midL), .int .i64 3600, .bool false, .string (bs [67, 69, 84]), .slice A 2 c]) ∧ Rd w' A (linVs landZ.lns) ∧ Below w.heap.size w w' := by
  have z1 : bs landL = ⟨#[122, 111, 110, 101, 32, 77, 105, 100, 47, 76, 97, 110, 100, 10, 98, 97, 115, 101, 32, 43, 48, 49, 58, 48, 48, 32, 67, 69, 84, 10, 114, 117, 108, 101, 32, 49, 57, 57, 54, 32, 111, 110, 32, 109, 97, 114, 32, 108, 97, 115, 116, 45, 115, 117, 110, 32, 48, 49, 58, 48, 48, 32, 43, 48, 48, 58, 48, 48, 32, 43, 48, 50, 58, 48, 48, 32, 100, 115, 116, 32, 67, 69, 83, 84, 10, 114, 117, 108, 101, 32, 49, 57, 57, 54, 32, 111, 110, 32, 111, 99, 116, 32, 108, 97, 115, 116, 45, 115, 117, 110, 32, 48, 49, 58, 48, 48, 32, 43, 48, 48, 58, 48, 48, 32, 43, 48, 49, 58, 48, 48, 32, 115, 116, 100, 32, 67, 69, 84, 10]⟩ := by unfold bs; rfl
  have X1 : ∀ w, Calls Tryz.prog 31 #[.string (bs landL)] w fun e w' => ∃ (A : Option Addr) (c : Nat), e = .returned (.tuple #[.agg #[.string (bs midL), .int .i64 3600, .bool false, .string (bs [67, 69, 84]), .slice A 2 c], .int .i64 0, .int .i64 0]) ∧ Rd w' A (linVs landZ.lns) ∧ Below w.heap.size w w' := by
    intro w; have := rParse15_any landL w; rw [land_prs] at this; exact this
  rw [z1] at X1
  have H1 := Lib.hid X1
  clear X1 z1
  generalize bs midL = M at *
  generalize bs [67, 69, 84] = K at *
  go_enter Tryz.func17, Tryz.ntmps17
  refine wp_shut ?_
  go_wp2_with fail
  refine (H1.out _).mono ?_
  rintro e w1 ⟨A, c, rfl, hR, hb1⟩
  have r1 := row_new hb1
  obtain ⟨b, o, rfl, hbl, hc⟩ := hR.lin (k := 0) (by decide)
  have hne : b ≠ w.heap.size := by
    rintro rfl
    have h1 := (hc 1 (by decide)).2.2.2.2.2.2.2.2.2.2.2.2
    rw [Lib.cell_of_heap r1] at h1
    simp at h1
  have B20 : Hid (Below w.heap.size w w1) := Lib.hid (((Below.refl _ w).alloc (Nat.le_refl _) _).trans (hb1.mono (by simp)))
  have hne2 : ∀ (b2 o2 : Nat), (some ⟨b, o, none⟩ : Option Addr) = some ⟨b2, o2, none⟩ → b2 ≠ w.heap.size := by
    intro b2 o2 e
    have e2 : b = b2 ∧ o = o2 := by simpa using e
    rw [← e2.1]
    exact hne
  have hR2 := Lib.hid (fun ob cs => rd_setRow hR (k := w.heap.size) hne2 ob cs)
  replace hne := Lib.hid hne
  clear hne2
  replace r1 := Lib.hid r1
  obtain ⟨V20, rfl⟩ : ∃ V, V = w1 := ⟨_, rfl⟩
  clear hb1 H1 hc hR
  
  have r1_f0 : V20.frozen? ⟨w.heap.size, 0, none⟩ = false := frx r1
  have r1_f1 : V20.frozen? ⟨w.heap.size, 1, none⟩ = false := frx r1
  have r1_f2 : V20.frozen? ⟨w.heap.size, 2, none⟩ = false := frx r1
  have r1_f3 : V20.frozen? ⟨w.heap.size, 3, none⟩ = false := frx r1
  have r1_f4 : V20.frozen? ⟨w.heap.size, 4, none⟩ = false := frx r1
  obtain ⟨r1_0, r1_1, r1_2, r1_3, r1_4⟩ := qw5 r1
  have zr1 := lt_of_heap r1.out
  go_simp
  have rr1 := setRow_heap (V20.alloc (Obj.cells #[Value.string M, Value.int .i64 3600, Value.bool false, Value.string K, Value.slice (some ⟨b,o,none⟩) 2 c] 26)) (w.heap.size) _ #[Value.string M, Value.int .i64 3600, Value.bool false, Value.string K, Value.slice (some ⟨b,o,none⟩) 2 c] _ _ (row_alloc r1.out _)
  obtain ⟨rr1_0, rr1_1, rr1_2, rr1_3, rr1_4⟩ := qv5 rr1
  go_wp2_with (refine wpList_store_row (by rfl) 26 _ _ (by rfl) (w.heap.size) #[Value.string M, Value.int .i64 3600, Value.bool false, Value.string K, Value.slice (some ⟨b,o,none⟩) 2 c] (by rfl) (by rfl) _ _ (row_alloc r1.out _) (by kernel_rfl) (by rfl) (by simp [Value.oneCell']) ?_)
  refine shut_ret (v := .agg #[.string M, .int .i64 3600, .bool false, .string K, .slice (some ⟨b, o, none⟩) 2 c]) (by simp [results, Tryz.results17, go_sem, rr1_0, rr1_1, rr1_2, rr1_3, rr1_4]) rfl ⟨_, _, rfl, hR2.out _ _, keepRow (B20.out.alloc B20.out.size _) (Nat.le_refl _) _⟩
set_option maxHeartbeats 6400000 in
set_option maxRecDepth 100000 in
theorem awake17_any (w : World) (hK : KX w) : Calls Tryz.prog 8 #[] w fun e w' => e = .returned (.bool true) ∧ Below w.heap.size w w' := by
  obtain ⟨YF, hYF⟩ := yf_ex
  have l5 := bs_list [67, 69, 83, 84]
  have HL := Lib.hid rLand17_any
  have X1 : ∀ (A : Option Addr) (c : Nat) w, KX w → Rd w A (linVs landZ.lns) → Calls Tryz.prog 16 #[.agg #[.string (bs midL), .int .i64 3600, .bool false, .string (bs [67, 69, 84]), .slice A 2 c], .int .i64 2024, .int .i64 2024] w (RetChg (ChP YF landZ 2024 2024) 0 w) := by
    intro A c w hK h
    have e : evE landZ 2024 2024 = 0 := by unfold evE; rw [if_neg (fun k => k land_cu), if_neg (by decide), if_neg (by decide)]
    have := pExChanges_any hYF landZ A c 2024 2024 w hK h (SB.of land_ok); rw [e] at this; exact this
  have X2 : ∀ (A : Option Addr) (c : Nat) w, KX w → Rd w A (linVs landZ.lns) → Calls Tryz.prog 11 #[.agg #[.string (bs midL), .int .i64 3600, .bool false, .string (bs [67, 69, 84]), .slice A 2 c]] w fun e w' => e = .returned (.tuple #[.int .i64 1997, .int .i64 0]) ∧ Below w.heap.size w w' := by
    intro A c w hK h
    have := pExLast_any hYF landZ A c w hK h (SB.of land_ok); rw [land_last, land_cu] at this; exact this
  have X3 : ∀ (A : Option Addr) (c : Nat) w, KX w → Rd w A (linVs landZ.lns) → Calls Tryz.prog 13 #[.agg #[.string (bs midL), .int .i64 3600, .bool false, .string (bs [67, 69, 84]), .slice A 2 c], .int .i64 2024, .int .i64 2023] w (RetChg (EvP YF landZ 2024 2023) 5 w) := by
    intro A c w hK h
    have e : evE landZ 2024 2023 = 5 := by unfold evE; rw [if_neg (fun k => k land_cu), if_pos (by decide)]
    have := pExEvents_any hYF landZ A c 2024 2023 w hK h (SB.of land_ok); rw [e] at this; exact this
  have X4 : ∀ (A : Option Addr) (c : Nat) w, KX w → Rd w A (linVs landZ.lns) → Calls Tryz.prog 9 #[.agg #[.string (bs midL), .int .i64 3600, .bool false, .string (bs [67, 69, 84]), .slice A 2 c], .int .i64 1711846800] w fun e w' => e = .returned (.tuple #[.agg #[.int .i64 7200, .bool true, .string (bs [67, 69, 83, 84])], .int .i64 0]) ∧ Below w.heap.size w w' := by
    intro A c w hK h
    have := pExAt_any hYF landZ A c 1711846800 w hK h (SB.of land_ok); rw [(land_at hYF).1, (land_at hYF).2] at this; exact this
  have hC := Lib.hid (fun M (h : ChP YF landZ 2024 2024 M) => land_ch hYF h)
  have hk4 : Hid (∀ (w : World) (b o : Nat), Rd w (some ⟨b, o, none⟩) (chgVs [(1711846800, triOf marZ), (1729990800, triOf octZ)]) → w.cell? ⟨b, o, none⟩ = some (.int .i64 1711846800) ∧ w.cell? ⟨b, o + 3, none⟩ = some (.string (bs [67, 69, 83, 84])) ∧ w.cell? ⟨b, o + 4, none⟩ = some (.int .i64 1729990800)) := Lib.hid (fun w b o h => by
    obtain ⟨b2, o2, e, _, hc⟩ := h.chg (k := 0) (by decide)
    obtain ⟨rfl, rfl⟩ : b = b2 ∧ o = o2 := by simpa using e
    have h0 := hc 0 (by decide)
    have h1 := hc 1 (by decide)
    exact ⟨by simpa using h0.1, by simpa [triOf, marZ] using h0.2.2.2, by simpa using h1.1⟩)
  have H1 := Lib.hid X1
  have H2 := Lib.hid X2
  have H3 := Lib.hid X3
  have H4 := Lib.hid X4
  clear X1 X2 X3 X4
  replace hK := Lib.hid hK
  generalize bs [67, 69, 83, 84] = S at *
  generalize bs midL = M at *
  generalize bs [67, 69, 84] = K at *
  go_enter Tryz.func8, Tryz.ntmps8
  go_wp2_with fail
  refine (HL.out _).mono ?_
  rintro e w1 ⟨A1, c1, rfl, hR, hb⟩
  have B1 := Lib.hid hb
  replace hR := Lib.hid hR
  clear hb
  go_simp
  go_wp2_with fail
  refine (H1.out A1 c1 _ (kx_keep hK B1.out) hR.out).mono ?_
  rintro e w2 ⟨L, A2, c2, rfl, hR2, hP, -, hb⟩
  obtain rfl := hC.out L hP
  obtain ⟨b, o, rfl, hbl, _⟩ := hR2.chg (k := 0) (by decide)
  have B2 := Lib.hid (B1.out.trans (hb.mono B1.out.size))
  replace hR2 := Lib.hid hR2
  clear hb hR hP H1 hC
  go_simp
  go_wp2_with fail
  refine (HL.out _).mono ?_
  rintro e w3 ⟨A3, c3, rfl, hR, hb⟩
  have B3 := Lib.hid (B2.out.trans (hb.mono B2.out.size))
  have C3 := Lib.hid hb
  replace hR := Lib.hid hR
  clear hb
  go_simp
  go_wp2_with fail
  refine (H2.out A3 c3 _ (kx_keep hK B3.out) hR.out).mono ?_
  rintro e w4 ⟨rfl, hb⟩
  have B4 := Lib.hid (B3.out.trans (hb.mono B3.out.size))
  have C4 := Lib.hid (C3.out.trans (hb.mono C3.out.size))
  clear hb hR C3 H2 B3
  go_simp
  go_wp2_with fail
  refine (HL.out _).mono ?_
  rintro e w5 ⟨A5, c5, rfl, hR, hb⟩
  have B5 := Lib.hid (B4.out.trans (hb.mono B4.out.size))
  have C5 := Lib.hid (C4.out.trans (hb.mono C4.out.size))
  replace hR := Lib.hid hR
  clear hb C4 B4
  go_simp
  go_wp2_with fail
  refine (H3.out A5 c5 _ (kx_keep hK B5.out) hR.out).mono ?_
  rintro e w6 ⟨L6, A6, c6, rfl, -, -, -, hb⟩
  have B6 := Lib.hid (B5.out.trans (hb.mono B5.out.size))
  have C6 := Lib.hid (C5.out.trans (hb.mono C5.out.size))
  clear hb hR C5 H3 B5
  go_simp
  go_wp2_with fail
  refine (HL.out _).mono ?_
  rintro e w7 ⟨A7, c7, rfl, hR, hb⟩
  have B7 := Lib.hid (B6.out.trans (hb.mono B6.out.size))
  have C7 := Lib.hid (C6.out.trans (hb.mono C6.out.size))
  replace hR := Lib.hid hR
  clear hb C6 B6
  go_simp
  go_wp2_with fail
  refine (H4.out A7 c7 _ (kx_keep hK B7.out) hR.out).mono ?_
  rintro e w8 ⟨rfl, hb⟩
  have B8 := Lib.hid (B7.out.trans (hb.mono B7.out.size))
  have C8 := Lib.hid (C7.out.trans (hb.mono C7.out.size))
  clear hb hR C7 H4 B7
  obtain ⟨q0, q3, q4⟩ := hk4.out _ _ _ hR2.out
  have k0 : w8.cell? ⟨b, o, none⟩ = some (.int .i64 1711846800) := (C8.out.cell (p := ⟨b, o, none⟩) hbl).trans q0
  have k3 : w8.cell? ⟨b, o + 3, none⟩ = some (.string S) := (C8.out.cell (p := ⟨b, o + 3, none⟩) hbl).trans q3
  have k4 : w8.cell? ⟨b, o + 4, none⟩ = some (.int .i64 1729990800) := (C8.out.cell (p := ⟨b, o + 4, none⟩) hbl).trans q4
  have hb8 : b < w8.heap.size := Nat.lt_of_lt_of_le hbl C8.out.size
  have hb9 : ¬ (b = w8.heap.size) := by omega
  clear q0 q3 q4 C8 hR2 hk4
  go_simp
  go_wp2
  go_ret
  exact ⟨by first | rfl | simp, B8.out.alloc B8.out.size _⟩
end Go.Proofs.YtacpcjdiljnlaaaGreatDoor
