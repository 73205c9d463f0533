/- Several texts in one: EpA, EpN, EpM, EpD, EpH, EpI, EpJ, EpB. -/
import Derived.Test.YtafecnlaodgmkaaGreatDoorY2Sm
import Derived.Test.YtafecnlaodgmkaaGreatDoorY2Pkg1
import Derived.Test.YtafecnlaodgmkaaGreatDoorShelf
import Derived.Test.YtafecnlaodgmkaaGreatDoorY2Clk1
import Derived.Test.YtafecnlaodgmkaaGreatDoorY2Civ1
import Derived.Test.YtafecnlaodgmkaaGreatDoorY2Ex1
import Derived.Test.YtafecnlaodgmkaaGreatDoorY2Yr2
import Derived.Test.YtafecnlaodgmkaaGreatDoorSortm
import Derived.LoopN
import Derived.Sort.Statements
import Derived.Lib.SlKept
import Derived.Lib.SliceRun
import Derived.Shelf.SlicesQ.Reverse
import Derived.Deep.LoopGhost
import Derived.BigQuiet
namespace Go.Proofs.YtafecnlaodgmkaaGreatDoor
set_option linter.unusedVariables false
set_option linter.unusedSimpArgs false
open Go.ChangeShapes Go.WideShapes Go.ChangeAt Go.RowKit
theorem w64 {n : Int} (a : -9223372036854775808 ≤ n) (b : n ≤ 9223372036854775807) : IntKind.i64.wrap n = n := by rw [IntKind.wrap_i64]; omega
theorem i64_low (n : Int) : bits .and .i64 n 4294967295 = n % 4294967296 := by
  have h : (BitVec.ofInt 64 4294967295).toNat = 2 ^ 32 - 1 := by decide
  have key : (BitVec.ofInt 64 n &&& BitVec.ofInt 64 4294967295).toNat = (n % ((2 ^ 64 : Nat) : Int)).toNat % 2 ^ 32 := by
    rw [BitVec.toNat_and, BitVec.toNat_ofInt, h, Nat.and_two_pow_sub_one_eq_mod]
  show IntKind.i64.wrap ((BitVec.ofInt 64 n &&& BitVec.ofInt 64 4294967295).toNat : Nat) = _
  rw [key, IntKind.wrap_i64]
  omega
theorem i64_join (h l : Int) (h1 : -2147483648 ≤ h) (h2 : h ≤ 2147483647) (l1 : 0 ≤ l) (l2 : l < 4294967296) : bits .or .i64 (h * 4294967296) l = h * 4294967296 + l := by
  have a1 : (h * 4294967296) % ((2 ^ 64 : Nat) : Int) = (h % 4294967296) * 4294967296 := by omega
  have key : (BitVec.ofInt 64 (h * 4294967296) ||| BitVec.ofInt 64 l).toNat = (h % 4294967296).toNat * 4294967296 + l.toNat := by
    rw [BitVec.toNat_or, BitVec.toNat_ofInt, BitVec.toNat_ofInt, a1]
    have e1 : ((h % 4294967296) * 4294967296).toNat = (h % 4294967296).toNat <<< 32 := by
      rw [Nat.shiftLeft_eq]; omega
    have e2 : (l % ((2 ^ 64 : Nat) : Int)).toNat = l.toNat := by omega
    rw [e1, e2, ← Nat.shiftLeft_add_eq_or_of_lt (by omega), Nat.shiftLeft_eq]
  show IntKind.i64.wrap ((BitVec.ofInt 64 (h * 4294967296) ||| BitVec.ofInt 64 l).toNat : Nat) = _
  rw [key, IntKind.wrap_i64]
  omega
theorem day_of (S : Int) : (S.tmod 86400 < 0 ∧ S.tdiv 86400 - 1 = S / 86400) ∨ (¬ S.tmod 86400 < 0 ∧ S.tdiv 86400 = S / 86400) := by
  obtain ⟨a, b, _, _⟩ := tdiv_parts S 86400 (by decide)
  by_cases h : S.tmod 86400 < 0
  · exact Or.inl ⟨h, by have := (a h).2; omega⟩
  · exact Or.inr ⟨h, by have := (b h).2; omega⟩
set_option maxHeartbeats 1600000 in
set_option maxRecDepth 100000 in
theorem ySum_any (a b c : Int) (ha : -1000000000000000 ≤ a ∧ a ≤ 1000000000000000) (hb : -100000 ≤ b ∧ b ≤ 100000) (hc : -100000 ≤ c ∧ c ≤ 100000) (w : World) : Calls Tryz.prog 121 #[.int .i64 a, .int .i64 b, .int .i64 c] w fun e w' => e = .returned (.tuple #[.int .i64 (a + b - c), .bool true]) ∧ Below w.heap.size w w' := by
  obtain ⟨la, Ela⟩ : ∃ x, a % 4294967296 = x := ⟨_, rfl⟩
  obtain ⟨lb, Elb⟩ : ∃ x, b % 4294967296 = x := ⟨_, rfl⟩
  obtain ⟨lc, Elc⟩ : ∃ x, c % 4294967296 = x := ⟨_, rfl⟩
  have b1 := i64_low a
  have b2 := i64_low b
  have b3 := i64_low c
  rw [Ela] at b1
  rw [Elb] at b2
  rw [Elc] at b3
  obtain ⟨qa, Eqa⟩ : ∃ x, a / 4294967296 = x := ⟨_, rfl⟩
  obtain ⟨qb, Eqb⟩ : ∃ x, b / 4294967296 = x := ⟨_, rfl⟩
  obtain ⟨qc, Eqc⟩ : ∃ x, c / 4294967296 = x := ⟨_, rfl⟩
  obtain ⟨ql, Eql⟩ : ∃ x, (la + lb - lc) / 4294967296 = x := ⟨_, rfl⟩
  have f1 : a.fdiv 4294967296 = qa := by rw [Int.fdiv_eq_ediv_of_nonneg _ (by decide)]; exact Eqa
  have f2 : b.fdiv 4294967296 = qb := by rw [Int.fdiv_eq_ediv_of_nonneg _ (by decide)]; exact Eqb
  have f3 : c.fdiv 4294967296 = qc := by rw [Int.fdiv_eq_ediv_of_nonneg _ (by decide)]; exact Eqc
  have f4 : (la + lb - lc).fdiv 4294967296 = ql := by rw [Int.fdiv_eq_ediv_of_nonneg _ (by decide)]; exact Eql
  have d1 : la + lb - lc - ql * 4294967296 = (la + lb - lc) % 4294967296 := by omega
  obtain ⟨lr, Elr⟩ : ∃ x, (la + lb - lc) % 4294967296 = x := ⟨_, rfl⟩
  have b4 := i64_low (la + lb - lc)
  rw [Elr] at b4
  have b5 := i64_join (qa + qb - qc + ql) lr (by omega) (by omega) (by omega) (by omega)
  have E0 : (qa + qb - qc + ql) * 4294967296 + lr = a + b - c := by omega
  have r1 : wiB (qa + qb - qc + ql) (-2147483648) 2147483647 = true := wiB_yes (by omega) (by omega)
  have H := Lib.hid (fun w => grow_of (yWithin_p (qa + qb - qc + ql) (-2147483648) 2147483647 w))
  rw [r1] at H
  rw [E0] at b5
  go_enter Tryz.func121, Tryz.ntmps121
  go_wp2_with fail
  
  refine (H.out _).mono ?_
  rintro e V1 ⟨rfl, hb1⟩
  have B1 : Hid (Below w.heap.size w V1) := by first | exact Lib.hid ((Below.refl w.heap.size w).trans (hb1.mono (by first | assumption | (simp <;> omega) | (simp; done)))) | exact Lib.hid (((Below.refl w.heap.size w).alloc (Nat.le_refl _) _).trans (hb1.mono (by first | assumption | (simp <;> omega) | (simp; done)))) | exact Lib.hid ((((Below.refl w.heap.size w).alloc (Nat.le_refl _) _).alloc (by simp <;> omega) _).trans (hb1.mono (by first | assumption | (simp <;> omega) | (simp; done)))) | exact Lib.hid (((((Below.refl w.heap.size w).alloc (Nat.le_refl _) _).alloc (by simp <;> omega) _).alloc (by simp <;> omega) _).trans (hb1.mono (by first | assumption | (simp <;> omega) | (simp; done))))
  clear hb1
  go_simp
  go_wp2
  go_ret2
  exact ⟨rfl, B1.out⟩
set_option maxHeartbeats 1600000 in
set_option maxRecDepth 100000 in
theorem yOnce_neg (S y q r a b c : Int) (hq : S.tdiv 86400 = q) (hr : S.tmod 86400 = r) (q1 : -1000000000000000 ≤ q) (q2 : q ≤ 1000000000000000) (hs : r < 0) (HD : Hid (∀ w, MD w → Calls Tryz.prog 120 #[.int .i64 (q - 1)] w fun e w' => e = .returned (.tuple #[.agg #[.int .i64 a, .int .i64 b, .int .i64 c], .int .i64 0]) ∧ Below w.heap.size w w')) (w : World) (hM : Hid (MD w)) :
    Calls Tryz.prog 94 #[.int .i64 S, .int .i64 y] w fun e w' => e = .returned (.tuple #[.int .i64 (if a = y then S else 0), .bool (decide (a = y))]) ∧ Below w.heap.size w w' := by
  have hw : IntKind.i64.wrap q = q := w64 (by omega) (by omega)
  by_cases ha : a = y
  · rw [if_pos ha, decide_eq_true ha]
    subst ha
    go_enter Tryz.func94, Tryz.ntmps94
    go_wp2_with fail
    
    refine (HD.out _ (by first | exact md_keep hM (Below.refl w.heap.size w) | exact md_keep hM ((Below.refl w.heap.size w).alloc (Nat.le_refl _) _) | exact md_keep hM (((Below.refl w.heap.size w).alloc (Nat.le_refl _) _).alloc (by simp <;> omega) _) | exact md_keep hM ((((Below.refl w.heap.size w).alloc (Nat.le_refl _) _).alloc (by simp <;> omega) _).alloc (by simp <;> omega) _))).mono ?_
    rintro e V1 ⟨rfl, hb1⟩
    have B1 : Hid (Below w.heap.size w V1) := by first | exact Lib.hid ((Below.refl w.heap.size w).trans (hb1.mono (by first | assumption | (simp <;> omega) | (simp; done)))) | exact Lib.hid (((Below.refl w.heap.size w).alloc (Nat.le_refl _) _).trans (hb1.mono (by first | assumption | (simp <;> omega) | (simp; done)))) | exact Lib.hid ((((Below.refl w.heap.size w).alloc (Nat.le_refl _) _).alloc (by simp <;> omega) _).trans (hb1.mono (by first | assumption | (simp <;> omega) | (simp; done)))) | exact Lib.hid (((((Below.refl w.heap.size w).alloc (Nat.le_refl _) _).alloc (by simp <;> omega) _).alloc (by simp <;> omega) _).trans (hb1.mono (by first | assumption | (simp <;> omega) | (simp; done))))
    clear hb1
    go_simp
    go_wp2
    go_ret2
    exact ⟨rfl, B1.out.alloc B1.out.size _⟩
  · rw [if_neg ha, decide_eq_false ha]
    have qa : (a != y) = true := bne_iff_ne.2 ha
    replace ha := Lib.hid ha
    go_enter Tryz.func94, Tryz.ntmps94
    go_wp2_with fail
    
    refine (HD.out _ (by first | exact md_keep hM (Below.refl w.heap.size w) | exact md_keep hM ((Below.refl w.heap.size w).alloc (Nat.le_refl _) _) | exact md_keep hM (((Below.refl w.heap.size w).alloc (Nat.le_refl _) _).alloc (by simp <;> omega) _) | exact md_keep hM ((((Below.refl w.heap.size w).alloc (Nat.le_refl _) _).alloc (by simp <;> omega) _).alloc (by simp <;> omega) _))).mono ?_
    rintro e V1 ⟨rfl, hb1⟩
    have B1 : Hid (Below w.heap.size w V1) := by first | exact Lib.hid ((Below.refl w.heap.size w).trans (hb1.mono (by first | assumption | (simp <;> omega) | (simp; done)))) | exact Lib.hid (((Below.refl w.heap.size w).alloc (Nat.le_refl _) _).trans (hb1.mono (by first | assumption | (simp <;> omega) | (simp; done)))) | exact Lib.hid ((((Below.refl w.heap.size w).alloc (Nat.le_refl _) _).alloc (by simp <;> omega) _).trans (hb1.mono (by first | assumption | (simp <;> omega) | (simp; done)))) | exact Lib.hid (((((Below.refl w.heap.size w).alloc (Nat.le_refl _) _).alloc (by simp <;> omega) _).alloc (by simp <;> omega) _).trans (hb1.mono (by first | assumption | (simp <;> omega) | (simp; done))))
    clear hb1
    go_simp
    go_wp2
    go_ret2
    exact ⟨rfl, B1.out.alloc B1.out.size _⟩
set_option maxHeartbeats 1600000 in
set_option maxRecDepth 100000 in
theorem yOnce_pos (S y q r a b c : Int) (hq : S.tdiv 86400 = q) (hr : S.tmod 86400 = r) (q1 : -1000000000000000 ≤ q) (q2 : q ≤ 1000000000000000) (hs : ¬ r < 0) (HD : Hid (∀ w, MD w → Calls Tryz.prog 120 #[.int .i64 (q)] w fun e w' => e = .returned (.tuple #[.agg #[.int .i64 a, .int .i64 b, .int .i64 c], .int .i64 0]) ∧ Below w.heap.size w w')) (w : World) (hM : Hid (MD w)) :
    Calls Tryz.prog 94 #[.int .i64 S, .int .i64 y] w fun e w' => e = .returned (.tuple #[.int .i64 (if a = y then S else 0), .bool (decide (a = y))]) ∧ Below w.heap.size w w' := by
  have hw : IntKind.i64.wrap q = q := w64 (by omega) (by omega)
  by_cases ha : a = y
  · rw [if_pos ha, decide_eq_true ha]
    subst ha
    go_enter Tryz.func94, Tryz.ntmps94
    go_wp2_with fail
    
    refine (HD.out _ (by first | exact md_keep hM (Below.refl w.heap.size w) | exact md_keep hM ((Below.refl w.heap.size w).alloc (Nat.le_refl _) _) | exact md_keep hM (((Below.refl w.heap.size w).alloc (Nat.le_refl _) _).alloc (by simp <;> omega) _) | exact md_keep hM ((((Below.refl w.heap.size w).alloc (Nat.le_refl _) _).alloc (by simp <;> omega) _).alloc (by simp <;> omega) _))).mono ?_
    rintro e V1 ⟨rfl, hb1⟩
    have B1 : Hid (Below w.heap.size w V1) := by first | exact Lib.hid ((Below.refl w.heap.size w).trans (hb1.mono (by first | assumption | (simp <;> omega) | (simp; done)))) | exact Lib.hid (((Below.refl w.heap.size w).alloc (Nat.le_refl _) _).trans (hb1.mono (by first | assumption | (simp <;> omega) | (simp; done)))) | exact Lib.hid ((((Below.refl w.heap.size w).alloc (Nat.le_refl _) _).alloc (by simp <;> omega) _).trans (hb1.mono (by first | assumption | (simp <;> omega) | (simp; done)))) | exact Lib.hid (((((Below.refl w.heap.size w).alloc (Nat.le_refl _) _).alloc (by simp <;> omega) _).alloc (by simp <;> omega) _).trans (hb1.mono (by first | assumption | (simp <;> omega) | (simp; done))))
    clear hb1
    go_simp
    go_wp2
    go_ret2
    exact ⟨rfl, B1.out.alloc B1.out.size _⟩
  · rw [if_neg ha, decide_eq_false ha]
    have qa : (a != y) = true := bne_iff_ne.2 ha
    replace ha := Lib.hid ha
    go_enter Tryz.func94, Tryz.ntmps94
    go_wp2_with fail
    
    refine (HD.out _ (by first | exact md_keep hM (Below.refl w.heap.size w) | exact md_keep hM ((Below.refl w.heap.size w).alloc (Nat.le_refl _) _) | exact md_keep hM (((Below.refl w.heap.size w).alloc (Nat.le_refl _) _).alloc (by simp <;> omega) _) | exact md_keep hM ((((Below.refl w.heap.size w).alloc (Nat.le_refl _) _).alloc (by simp <;> omega) _).alloc (by simp <;> omega) _))).mono ?_
    rintro e V1 ⟨rfl, hb1⟩
    have B1 : Hid (Below w.heap.size w V1) := by first | exact Lib.hid ((Below.refl w.heap.size w).trans (hb1.mono (by first | assumption | (simp <;> omega) | (simp; done)))) | exact Lib.hid (((Below.refl w.heap.size w).alloc (Nat.le_refl _) _).trans (hb1.mono (by first | assumption | (simp <;> omega) | (simp; done)))) | exact Lib.hid ((((Below.refl w.heap.size w).alloc (Nat.le_refl _) _).alloc (by simp <;> omega) _).trans (hb1.mono (by first | assumption | (simp <;> omega) | (simp; done)))) | exact Lib.hid (((((Below.refl w.heap.size w).alloc (Nat.le_refl _) _).alloc (by simp <;> omega) _).alloc (by simp <;> omega) _).trans (hb1.mono (by first | assumption | (simp <;> omega) | (simp; done))))
    clear hb1
    go_simp
    go_wp2
    go_ret2
    exact ⟨rfl, B1.out.alloc B1.out.size _⟩
theorem yOnce_any {S Y : Int} (hY : YIs S Y) (s1 : -377705116800 ≤ S) (s2 : S ≤ 253402300799) (y : Int) (w : World) (hM : MD w) :
    Calls Tryz.prog 94 #[.int .i64 S, .int .i64 y] w fun e w' => e = .returned (.tuple #[.int .i64 (if Y = y then S else 0), .bool (decide (Y = y))]) ∧ Below w.heap.size w w' := by
  obtain ⟨y1, y2, m, d, hm, hd⟩ := yIs_in hY s1 s2
  have H := pDateOf_any Y m d hm y1 y2
  rw [hd] at H
  have a := Int.tmod_add_mul_tdiv S 86400
  rcases day_of S with ⟨h1, h2⟩ | ⟨h1, h2⟩
  · rw [← h2] at H
    exact yOnce_neg S y _ _ Y m d rfl rfl (by omega) (by omega) h1 (Lib.hid H) w (Lib.hid hM)
  · rw [← h2] at H
    exact yOnce_pos S y _ _ Y m d rfl rfl (by omega) (by omega) h1 (Lib.hid H) w (Lib.hid hM)
set_option maxHeartbeats 3200000 in
set_option maxRecDepth 100000 in
theorem yRep_any (s f t m dk dn dw ti rd off : Int) (dst : Bool) (abb : List UInt8) (y : Int) (ht : -100000 ≤ ti ∧ ti ≤ 100000) (hr : -100000 ≤ rd ∧ rd ≤ 100000) (w : World) (hM : MD w) :
    Calls Tryz.prog 95 #[.agg #[.int .i64 2, .int .i64 s, .int .i64 f, .int .i64 t, .int .i64 m, .int .i64 dk, .int .i64 dn, .int .i64 dw, .int .i64 ti, .int .i64 rd, .int .i64 off, .bool dst, .string (bs abb)], .int .i64 y] w fun e w' => e = .returned (.tuple #[.int .i64 (atV ⟨2, s, f, t, m, dk, dn, dw, ti, rd, off, dst, abb⟩ 0 y).1, .bool (atV ⟨2, s, f, t, m, dk, dn, dw, ti, rd, off, dst, abb⟩ 0 y).2]) ∧ Below w.heap.size w w' := by
  have HD := Lib.hid (pYrDay_any dk dn dw y m)
  have HW := Lib.hid (fun w => grow_of (yWithin_p y f t w))
  have E : Hid (atV ⟨2, s, f, t, m, dk, dn, dw, ti, rd, off, dst, abb⟩ 0 y = if y < f ∨ t < y then (0, false) else if yrE dk dn dw y m ≠ 0 then (0, false) else (yrV dk dn dw y m * 86400 + ti - rd, true)) := Lib.hid (by
    show (if (2 : Int) = 1 then _ else if (2 : Int) ≠ 2 ∨ y < f ∨ t < y then _ else _) = _
    rw [if_neg (by decide)]
    simp)
  have hbd := yrV_bd (k := dk) (n := dn) (wd := dw) (y := y) (m := m)
  replace hM := Lib.hid hM
  generalize atV ⟨2, s, f, t, m, dk, dn, dw, ti, rd, off, dst, abb⟩ 0 y = R at *
  generalize yrE dk dn dw y m = ye at *
  generalize yrV dk dn dw y m = yv at *
  by_cases h5 : ye ≠ 0
  · have E2 : Hid (R = (0, false)) := Lib.hid (by
      rw [E.out]
      by_cases q : y < f ∨ t < y
      · rw [if_pos q]
      · rw [if_neg q, if_pos h5])
    have d5 : (ye != 0) = true := bne_iff_ne.2 h5
    clear E hbd
    replace h5 := Lib.hid h5
    go_enter Tryz.func95, Tryz.ntmps95
    go_wp2_with fail
    
    refine (HD.out _ (by first | exact md_keep hM ((Below.refl w.heap.size w).alloc (Nat.le_refl _) _))).mono ?_
    rintro e V1 ⟨rfl, hb1⟩
    have B1 := nby hb1
    have A1 := Lib.hid (row_call hb1 (heap_alloc_new _ _))
    clear hb1
    obtain ⟨A1_0, A1_1, A1_2, A1_3, A1_4, A1_5, A1_6, A1_7, A1_8, A1_9, A1_10, A1_11, A1_12⟩ := qw13 A1
    have zA1 := lt_of_heap A1.out
    go_simp
    go_wp2
    go_ret2
    exact ⟨by rw [E2.out]; rfl, B1.out⟩
  · have h50 : ye = 0 := Classical.not_not.1 h5
    subst h50
    have hb2 := hbd rfl
    clear hbd h5
    by_cases h3 : y < f ∨ t < y
    · have E2 : Hid (R = (0, false)) := Lib.hid (by rw [E.out, if_pos h3])
      rw [wiB_no h3] at HW
      clear E
      replace h3 := Lib.hid h3
      go_enter Tryz.func95, Tryz.ntmps95
      go_wp2_with fail
      
      refine (HD.out _ (by first | exact md_keep hM ((Below.refl w.heap.size w).alloc (Nat.le_refl _) _))).mono ?_
      rintro e V1 ⟨rfl, hb1⟩
      have B1 := nby hb1
      have A1 := Lib.hid (row_call hb1 (heap_alloc_new _ _))
      clear hb1
      obtain ⟨A1_0, A1_1, A1_2, A1_3, A1_4, A1_5, A1_6, A1_7, A1_8, A1_9, A1_10, A1_11, A1_12⟩ := qw13 A1
      have zA1 := lt_of_heap A1.out
      go_simp
      go_wp2_with fail
      refine (HW.out _).mono ?_
      rintro e V2 ⟨rfl, hb2⟩
      clear A1_0 A1_1 A1_2 A1_3 A1_4 A1_5 A1_6 A1_7 A1_8 A1_9 A1_10 A1_11 A1_12 zA1
      have B2 : Hid (Below w.heap.size w V2) := nbx B1 hb2
      replace A1 := rcx hb2 A1
      clear hb2
      obtain ⟨A1_0, A1_1, A1_2, A1_3, A1_4, A1_5, A1_6, A1_7, A1_8, A1_9, A1_10, A1_11, A1_12⟩ := qw13 A1
      have zA1 := lt_of_heap A1.out
      go_simp
      go_wp2
      go_ret2
      exact ⟨by rw [E2.out]; rfl, B2.out⟩
    · have E2 : Hid (R = (yv * 86400 + ti - rd, true)) := Lib.hid (by rw [E.out, if_neg h3, if_neg (by decide)])
      rw [wiB_yes (by omega) (by omega)] at HW
      have HS := Lib.hid (ySum_any (yv * 86400) ti rd (by omega) ht hr)
      have hw : IntKind.i64.wrap (yv * 86400) = yv * 86400 := w64 (by omega) (by omega)
      clear E
      replace h3 := Lib.hid h3
      go_enter Tryz.func95, Tryz.ntmps95
      go_wp2_with fail
      
      refine (HD.out _ (by first | exact md_keep hM ((Below.refl w.heap.size w).alloc (Nat.le_refl _) _))).mono ?_
      rintro e V1 ⟨rfl, hb1⟩
      have B1 := nby hb1
      have A1 := Lib.hid (row_call hb1 (heap_alloc_new _ _))
      clear hb1
      obtain ⟨A1_0, A1_1, A1_2, A1_3, A1_4, A1_5, A1_6, A1_7, A1_8, A1_9, A1_10, A1_11, A1_12⟩ := qw13 A1
      have zA1 := lt_of_heap A1.out
      go_simp
      go_wp2_with fail
      refine (HW.out _).mono ?_
      rintro e V2 ⟨rfl, hb2⟩
      clear A1_0 A1_1 A1_2 A1_3 A1_4 A1_5 A1_6 A1_7 A1_8 A1_9 A1_10 A1_11 A1_12 zA1
      have B2 : Hid (Below w.heap.size w V2) := nbx B1 hb2
      replace A1 := rcx hb2 A1
      clear hb2
      obtain ⟨A1_0, A1_1, A1_2, A1_3, A1_4, A1_5, A1_6, A1_7, A1_8, A1_9, A1_10, A1_11, A1_12⟩ := qw13 A1
      have zA1 := lt_of_heap A1.out
      go_simp
      go_wp2_with fail
      refine (HS.out _).mono ?_
      rintro e V3 ⟨rfl, hb3⟩
      clear A1_0 A1_1 A1_2 A1_3 A1_4 A1_5 A1_6 A1_7 A1_8 A1_9 A1_10 A1_11 A1_12 zA1
      have B3 : Hid (Below w.heap.size w V3) := nbx B2 hb3
      replace A1 := rcx hb3 A1
      clear hb3
      obtain ⟨A1_0, A1_1, A1_2, A1_3, A1_4, A1_5, A1_6, A1_7, A1_8, A1_9, A1_10, A1_11, A1_12⟩ := qw13 A1
      have zA1 := lt_of_heap A1.out
      go_simp
      go_wp2
      go_ret2
      exact ⟨by rw [E2.out]; rfl, B3.out⟩
set_option maxHeartbeats 3200000 in
set_option maxRecDepth 100000 in
theorem pYrAt_any {YF : Int → Int} (hYF : ∀ S, YIs S (YF S)) (l : Lin) (hl : OkL l) (y : Int) (w : World) (hM : MD w) : Calls Tryz.prog 67 #[linA l, .int .i64 y] w fun e w' => e = .returned (.tuple #[.int .i64 (atV l (YF l.s) y).1, .bool (atV l (YF l.s) y).2]) ∧ Below w.heap.size w w' := by
  rcases hl.1 with ⟨hk, -, -, -, -, -, -, -, -, s1, s2⟩ | ⟨hk, -, -, -, -, -, -, -, t0, t1, r0, r1⟩
  · have H := Lib.hid (yOnce_any (hYF l.s) s1 s2 y)
    have E : atV l (YF l.s) y = (if YF l.s = y then l.s else 0, decide (YF l.s = y)) := by
      unfold atV
      rw [if_pos hk]
      by_cases h : YF l.s = y
      · rw [if_pos ⟨⟨s1, s2⟩, h⟩, if_pos h, decide_eq_true h]
      · rw [if_neg (fun e => h e.2), if_neg h, decide_eq_false h]
    rw [E]
    obtain ⟨k, s, f, t, m, dk, dn, dw, ti, rd, off, dst, abb⟩ := l
    simp only at *
    subst hk
    clear hl E
    unfold linA
    simp only
    generalize (if YF s = y then s else 0) = R at *
    generalize decide (YF s = y) = b at *
    replace hM := Lib.hid hM
    go_enter Tryz.func67, Tryz.ntmps67
    go_wp2_with fail
    
    refine (H.out _ (by first | exact md_keep hM ((Below.refl w.heap.size w).alloc (Nat.le_refl _) _))).mono ?_
    rintro e V1 ⟨rfl, hb1⟩
    have B1 := nby hb1
    have A1 := Lib.hid (row_call hb1 (heap_alloc_new _ _))
    clear hb1
    obtain ⟨A1_0, A1_1, A1_2, A1_3, A1_4, A1_5, A1_6, A1_7, A1_8, A1_9, A1_10, A1_11, A1_12⟩ := qw13 A1
    have zA1 := lt_of_heap A1.out
    go_simp
    go_wp2
    go_ret2
    exact ⟨rfl, B1.out⟩
  · obtain ⟨k, s, f, t, m, dk, dn, dw, ti, rd, off, dst, abb⟩ := l
    simp only at *
    subst hk
    have H := Lib.hid (yRep_any s f t m dk dn dw ti rd off dst abb y (by omega) (by omega))
    have E : atV ⟨2, s, f, t, m, dk, dn, dw, ti, rd, off, dst, abb⟩ (YF s) y = atV ⟨2, s, f, t, m, dk, dn, dw, ti, rd, off, dst, abb⟩ 0 y := rfl
    rw [E]
    clear hl E
    unfold linA
    simp only
    generalize atV ⟨2, s, f, t, m, dk, dn, dw, ti, rd, off, dst, abb⟩ 0 y = R at *
    replace hM := Lib.hid hM
    go_enter Tryz.func67, Tryz.ntmps67
    go_wp2_with fail
    
    refine (H.out _ (by first | exact md_keep hM ((Below.refl w.heap.size w).alloc (Nat.le_refl _) _))).mono ?_
    rintro e V1 ⟨rfl, hb1⟩
    have B1 := nby hb1
    have A1 := Lib.hid (row_call hb1 (heap_alloc_new _ _))
    clear hb1
    obtain ⟨A1_0, A1_1, A1_2, A1_3, A1_4, A1_5, A1_6, A1_7, A1_8, A1_9, A1_10, A1_11, A1_12⟩ := qw13 A1
    have zA1 := lt_of_heap A1.out
    go_simp
    go_wp2
    go_ret2
    exact ⟨rfl, B1.out⟩
end Go.Proofs.YtafecnlaodgmkaaGreatDoor
namespace Go.Proofs.YtafecnlaodgmkaaGreatDoor
set_option linter.unusedVariables false
set_option linter.unusedSimpArgs false
open Go.ChangeShapes Go.WideShapes Go.ChangeAt Go.RowKit
theorem sta_lt {a b : Int} (h : a < b) : staI a < staI b := by rw [sta_yst, sta_yst]; have := yst_365 h; omega
theorem sta_le {a b : Int} (h : a ≤ b) : staI a ≤ staI b := by rw [sta_yst, sta_yst]; have := yst_mono h; omega
theorem sta_min : staI (-9999) = -377705116800 := by rw [sta_yst, yst_bounds.1]; rfl
theorem sta_max : staI 10000 = 253402300800 := by rw [sta_yst, yst_bounds.2]; rfl
def YoI (x Y : Int) : Prop := -10000 ≤ Y ∧ Y ≤ 9999 ∧ (Y = -10000 ∨ staI Y ≤ x) ∧ (Y = 9999 ∨ x < staI (Y + 1))
theorem yo_in {YF : Int → Int} (hYF : ∀ S, YIs S (YF S)) {x Y : Int} (h : YoI x Y) (x1 : -377705116800 ≤ x) (x2 : x ≤ 253402300799) : Y = YF x := by
  obtain ⟨h1, h2, h3, h4⟩ := h
  obtain ⟨a, b⟩ := yis_sta (hYF x) x1 x2
  obtain ⟨c, d, _⟩ := yIs_in (hYF x) x1 x2
  rcases Int.lt_trichotomy Y (YF x) with h | h | h
  · have := sta_le (a := Y + 1) (b := YF x) (by omega)
    rcases h4 with h4 | h4 <;> omega
  · exact h
  · have := sta_le (a := YF x + 1) (b := Y) (by omega)
    rcases h3 with h3 | h3 <;> omega
theorem yo_uniq {x Y Z : Int} (h : YoI x Y) (k : YoI x Z) : Y = Z := by
  obtain ⟨h1, h2, h3, h4⟩ := h
  obtain ⟨k1, k2, k3, k4⟩ := k
  rcases Int.lt_trichotomy Y Z with e | e | e
  · have := sta_le (a := Y + 1) (b := Z) (by omega)
    rcases h4 with h4 | h4 <;> rcases k3 with k3 | k3 <;> omega
  · exact e
  · have := sta_le (a := Z + 1) (b := Y) (by omega)
    rcases k4 with k4 | k4 <;> rcases h3 with h3 | h3 <;> omega
theorem yo_ex (x : Int) : ∃ Y, YoI x Y := by
  by_cases h1 : x < -377705116800
  · exact ⟨-10000, by omega, by omega, Or.inl rfl, Or.inr (by rw [show (-10000 + 1 : Int) = -9999 from rfl, sta_min]; exact h1)⟩
  · by_cases h2 : 253402300799 < x
    · have := sta_lt (a := 9999) (b := 10000) (by omega)
      rw [sta_max] at this
      exact ⟨9999, by omega, by omega, Or.inr (by omega), Or.inl rfl⟩
    · obtain ⟨Y, hY⟩ := yis_ex x
      have a := yis_sta hY (by omega) (by omega)
      obtain ⟨b, c, _⟩ := yIs_in hY (by omega) (by omega)
      exact ⟨Y, by omega, by omega, Or.inr a.1, Or.inr a.2⟩
def begY (YF : Int → Int) (l : Lin) : Int := if l.k = 1 then YF l.s else l.f
def stpY (YF : Int → Int) (l : Lin) (Y : Int) : Int := if l.k = 1 then min (YF l.s) (Y + 1) else min (min l.t 10000) (Y + 1)
def hitM (YF : Int → Int) (l : Lin) (x y : Int) : Bool := (atV l (YF l.s) y).2 && decide ((atV l (YF l.s) y).1 ≤ x)
theorem hit_iff {YF : Int → Int} {l : Lin} {x y : Int} : hitM YF l x y = true ↔ ∃ s, atV l (YF l.s) y = (s, true) ∧ s ≤ x := by
  unfold hitM
  generalize atV l (YF l.s) y = a
  obtain ⟨s, b⟩ := a
  constructor
  · intro h
    simp only [Bool.and_eq_true, decide_eq_true_eq] at h
    exact ⟨s, by rw [h.1], h.2⟩
  · rintro ⟨t, e, h3⟩
    obtain ⟨rfl, rfl⟩ := Prod.mk.inj e
    simp [h3]
theorem at_rule {l : Lin} {Y y s : Int} (hk : l.k = 2) (h : atV l Y y = (s, true)) : l.f ≤ y ∧ y ≤ l.t ∧ yrE l.dk l.dn l.dw y l.m = 0 ∧ s = yrN l.dk l.dn l.dw y l.m * 86400 + l.ti - l.rd := by
  unfold atV at h
  rw [if_neg (by omega)] at h
  split at h
  · simp at h
  · rename_i h2
    split at h
    · simp at h
    · rename_i h3
      have h4 : yrE l.dk l.dn l.dw y l.m = 0 := Classical.not_not.1 h3
      have e : yrV l.dk l.dn l.dw y l.m = yrN l.dk l.dn l.dw y l.m := by unfold yrV; exact if_pos h4
      rw [e] at h
      have := congrArg Prod.fst h
      exact ⟨by omega, by omega, h4, this.symm⟩
theorem rule_at {l : Lin} {Y y : Int} (hk : l.k = 2) (h1 : l.f ≤ y) (h2 : y ≤ l.t) (h3 : yrE l.dk l.dn l.dw y l.m = 0) : atV l Y y = (yrN l.dk l.dn l.dw y l.m * 86400 + l.ti - l.rd, true) := by
  have e : yrV l.dk l.dn l.dw y l.m = yrN l.dk l.dn l.dw y l.m := by unfold yrV; exact if_pos h3
  unfold atV
  rw [if_neg (by omega), if_neg (by omega), if_neg (fun k => k h3), e]
theorem at_once {l : Lin} {Y y s : Int} (hk : l.k = 1) (h : atV l Y y = (s, true)) : s = l.s ∧ y = Y ∧ -377705116800 ≤ l.s ∧ l.s ≤ 253402300799 := by
  unfold atV at h
  rw [if_pos hk] at h
  split at h
  · rename_i h2
    have := congrArg Prod.fst h
    exact ⟨this.symm, h2.2.symm, h2.1.1, h2.1.2⟩
  · simp at h
theorem at_lt {YF : Int → Int} {l : Lin} (hl : OkL l) {y z s t : Int} (h : atV l (YF l.s) y = (s, true)) (h2 : atV l (YF l.s) z = (t, true)) (hy : y < z) : s < t := by
  rcases hl.1 with ⟨hk, _⟩ | ⟨hk, _⟩
  · have a := (at_once hk h).2.1
    have b := (at_once hk h2).2.1
    omega
  · obtain ⟨_, _, e1, s1⟩ := at_rule hk h
    obtain ⟨_, _, e2, s2⟩ := at_rule hk h2
    have := yrN_lt e1 e2 hy
    omega
theorem yrE_in {k n w y m : Int} (h : yrE k n w y m = 0) : mayD k n w = true ∧ 1 ≤ m ∧ m ≤ 12 ∧ ¬ (k = 0 ∧ mdI y m < n) ∧ -9999 ≤ y ∧ y ≤ 10000 := by
  by_cases h1 : mayD k n w = false ∨ m < 1 ∨ 12 < m
  · have := (yr_bad (n := n) (y := y) h1).1; omega
  · by_cases h2 : k = 0 ∧ mdI y m < n
    · have := (yr_day h1 h2).1; omega
    · by_cases h3 : y < -9999 ∨ 10000 < y
      · have := (yr_range h1 h2 h3).1; omega
      · refine ⟨?_, by omega, by omega, h2, by omega, by omega⟩
        cases e : mayD k n w
        · exact absurd (Or.inl e) h1
        · rfl
theorem in_yrE {k n w y m : Int} (h0 : mayD k n w = true) (h1 : 1 ≤ m) (h2 : m ≤ 12) (h3 : ¬ (k = 0 ∧ mdI y m < n)) (h4 : -9999 ≤ y) (h5 : y ≤ 10000) : yrE k n w y m = 0 :=
  (yr_ok (fun e => by rcases e with e | e | e; rw [h0] at e; cases e; omega; omega) h3 (by omega)).1
theorem mdI_other {m : Int} (h : m ≠ 2) (y z : Int) : mdI y m = mdI z m := by
  unfold mdI
  repeat' split
  all_goals omega
theorem mdI_two (y : Int) : mdI y 2 = if lpB y = true then 29 else 28 := by
  unfold mdI
  rw [if_neg (by decide), if_neg (by decide), if_pos rfl]
theorem leap_in (a : Int) : ∃ u, a ≤ u ∧ u ≤ a + 7 ∧ lpB u = true := by
  have key : ∀ u : Int, u % 4 = 0 → u % 100 ≠ 0 → lpB u = true := fun u h1 h2 => by unfold lpB; simp [h1, h2]
  have e : (a + (-a) % 4) % 4 = 0 := by omega
  by_cases h : (a + (-a) % 4) % 100 = 0
  · exact ⟨a + (-a) % 4 + 4, by omega, by omega, key _ (by omega) (by omega)⟩
  · exact ⟨a + (-a) % 4, by omega, by omega, key _ e h⟩
theorem near {YF : Int → Int} (hYF : ∀ S, YIs S (YF S)) {l : Lin} (hl : OkL l) {v s x Y : Int} (h : momB YF l v s) (hs : s ≤ x) (hx : x ≤ 253402300799) (hY : YoI x Y) :
    v ≤ stpY YF l Y ∧ begY YF l ≤ v ∧ ∃ u, begY YF l ≤ u ∧ stpY YF l Y - 9 ≤ u ∧ u ≤ stpY YF l Y ∧ hitM YF l x u = true := by
  have hYe := yo_in hYF hY (by have := h.2.1; omega) hx
  have hvy := mom_year hYF hl h hx hs
  have hxs := yis_sta (hYF x) (by have := h.2.1; omega) hx
  rw [← hYe] at hvy hxs
  rcases hl.1 with ⟨hk, _⟩ | ⟨hk, _, _, _, _, m1, m2, _, t0, t1, r0, r1⟩
  · obtain ⟨e1, e2⟩ := mom_at hk h
    have a : begY YF l = v := by unfold begY; rw [if_pos hk, e2]
    have b : stpY YF l Y = v := by unfold stpY; rw [if_pos hk, ← e2]; omega
    rw [a, b]
    exact ⟨Int.le_refl _, Int.le_refl _, v, by omega, by omega, by omega, hit_iff.2 ⟨s, h.1, hs⟩⟩
  · obtain ⟨f1, f2, ye, es⟩ := mom_rule hk h
    obtain ⟨hd, _, _, hn, y1, y2⟩ := yrE_in ye
    have a : begY YF l = l.f := by unfold begY; rw [if_neg (by omega)]
    have b : stpY YF l Y = min (min l.t 10000) (Y + 1) := by unfold stpY; rw [if_neg (by omega)]
    rw [a, b]
    refine ⟨by omega, f1, ?_⟩
    generalize hst : min (min l.t 10000) (Y + 1) = st at *
    by_cases hc : st - 9 ≤ v
    · exact ⟨v, f1, hc, by omega, hit_iff.2 ⟨s, h.1, hs⟩⟩
    · have hcm := (cmN_bd 0 0)
      by_cases h29 : l.dk = 0 ∧ l.m = 2 ∧ 28 < l.dn
      · obtain ⟨k0, k2, k3⟩ := h29
        obtain ⟨u, u1, u2, u3⟩ := leap_in (st - 9)
        have hv29 : ¬ mdI v 2 < l.dn := fun e => hn ⟨k0, by rw [k2]; exact e⟩
        rw [mdI_two] at hv29
        have hdn : l.dn = 29 := by split at hv29 <;> omega
        have hue : yrE l.dk l.dn l.dw u l.m = 0 := in_yrE hd m1 m2 (fun e => by have := e.2; rw [k2, mdI_two, if_pos u3] at this; omega) (by omega) (by omega)
        refine ⟨u, by omega, by omega, by omega, hit_iff.2 ⟨_, rule_at hk (by omega) (by omega) hue, ?_⟩⟩
        have e1 : yrN l.dk l.dn l.dw u l.m = yst u + 59 := by
          unfold yrN
          rw [if_pos k0, k2, hdn]
          unfold dnI
          have c1 : cmN u 1 = 31 := by
            show cmN u 0 + mdI u ((0 : Nat) + 1) = 31
            have : mdI u ((0 : Nat) + 1) = 31 := by unfold mdI; rfl
            rw [this]; rfl
          rw [show ((2 : Int) - 1).toNat = 1 from rfl, c1]
          omega
        have e2 := yst_365 (a := u) (b := u + 1) (by omega)
        have e3 := yst_mono (a := u + 1) (b := Y) (by omega)
        have e4 := hxs.1
        rw [sta_yst] at e4
        rw [e1]
        omega
      · have hue : yrE l.dk l.dn l.dw (st - 3) l.m = 0 := by
          refine in_yrE hd m1 m2 (fun e => ?_) (by omega) (by omega)
          by_cases hm : l.m = 2
          · have e2 := e.2
            have g := mdI_ge (st - 3) l.m (by omega)
            exact h29 ⟨e.1, hm, by omega⟩
          · rw [mdI_other hm (st - 3) v] at e
            exact hn e
        refine ⟨st - 3, by omega, by omega, by omega, hit_iff.2 ⟨_, rule_at hk (by omega) (by omega) hue, ?_⟩⟩
        have e1 := (yrN_bd hue).2
        have e2 := (cmN_bd (st - 3) (l.m - 1).toNat).2
        have e3 := yst_365 (a := st - 3) (b := st - 2) (by omega)
        have e4 := yst_365 (a := st - 2) (b := st - 1) (by omega)
        have e5 := yst_mono (a := st - 1) (b := Y) (by omega)
        have e6 := hxs.1
        rw [sta_yst] at e6
        generalize yrN l.dk l.dn l.dw (st - 3) l.m = N at *
        generalize cmN (st - 3) (l.m - 1).toNat = C at *
        have e7 : (st - 3 : Int) + 2 = st - 1 := by omega
        omega
def FndI (YF : Int → Int) (l : Lin) (x Y a : Int) (b : Bool) : Prop :=
  (b = true ∧ ∃ y, begY YF l ≤ y ∧ y ≤ stpY YF l Y ∧ atV l (YF l.s) y = (a, true) ∧ a ≤ x ∧ ∀ u, y < u → u ≤ stpY YF l Y → hitM YF l x u = false) ∨
  (b = false ∧ a = 0 ∧ ∀ u, begY YF l ≤ u → stpY YF l Y - 9 ≤ u → u ≤ stpY YF l Y → hitM YF l x u = false)
def fndV (YF : Int → Int) (l : Lin) (x Y : Int) : Int × Bool :=
  (seekN (hitM YF l x) (stpY YF l Y) (stpY YF l Y - max (begY YF l) (stpY YF l Y - 9) + 1).toNat).elim (0, false) (fun y => ((atV l (YF l.s) y).1, true))
theorem fnd_of (YF : Int → Int) (l : Lin) (x Y : Int) : FndI YF l x Y (fndV YF l x Y).1 (fndV YF l x Y).2 := by
  unfold fndV
  cases h : seekN (hitM YF l x) (stpY YF l Y) (stpY YF l Y - max (begY YF l) (stpY YF l Y - 9) + 1).toNat with
  | none =>
    refine Or.inr ⟨rfl, rfl, fun u u1 u2 u3 => ?_⟩
    exact seek_none h u (by omega) u3
  | some y =>
    obtain ⟨h1, h2, h3, h4⟩ := seek_some h
    obtain ⟨s, hs, hx⟩ := hit_iff.1 h1
    refine Or.inl ⟨rfl, y, by omega, h2, ?_, ?_, h4⟩
    · show atV l (YF l.s) y = ((atV l (YF l.s) y).1, true)
      rw [hs]
    · show (atV l (YF l.s) y).1 ≤ x
      rw [hs]; exact hx
theorem fnd_line {YF : Int → Int} (hYF : ∀ S, YIs S (YF S)) {l : Lin} (hl : OkL l) {x Y a : Int} {b : Bool} (hx : x ≤ 253402300799) (hY : YoI x Y) (h : FndI YF l x Y a b) :
    lineA YF l x = if b = true ∧ -377705116800 ≤ a then some a else none := by
  rcases h with ⟨rfl, y, y1, y2, ha, hax, hno⟩ | ⟨rfl, rfl, hno⟩
  · by_cases hm : -377705116800 ≤ a
    · rw [if_pos ⟨rfl, hm⟩]
      have hM : momB YF l y a := ⟨ha, hm, by omega⟩
      cases hA : lineA YF l x with
      | none => exact absurd hax (lineA_none hYF hl hx hA y a hM)
      | some c =>
        obtain ⟨⟨z, hz⟩, hcx, hmax⟩ := lineA_some hYF hl hx hA
        have h1 := hmax y a hM hax
        have hzs := (near hYF hl hz hcx hx hY).1
        by_cases hyz : y < z
        · have := hno z hyz hzs
          rw [hit_iff.2 ⟨c, hz.1, hcx⟩] at this; cases this
        · have := mom_le hl hz hM (by omega)
          rw [show c = a by omega]
    · rw [if_neg (fun e => hm e.2)]
      cases hA : lineA YF l x with
      | none => rfl
      | some c =>
        obtain ⟨⟨z, hz⟩, hcx, hmax⟩ := lineA_some hYF hl hx hA
        have hzs := (near hYF hl hz hcx hx hY).1
        have hc := hz.2.1
        by_cases hyz : y < z
        · have := hno z hyz hzs
          rw [hit_iff.2 ⟨c, hz.1, hcx⟩] at this; cases this
        · by_cases e : z = y
          · subst e
            have := hz.1.symm.trans ha
            have := congrArg Prod.fst this
            simp only at this
            omega
          · have := at_lt hl hz.1 ha (by omega)
            omega
  · rw [if_neg (fun e => absurd e.1 (by decide))]
    cases hA : lineA YF l x with
    | none => rfl
    | some c =>
      obtain ⟨⟨z, hz⟩, hcx, hmax⟩ := lineA_some hYF hl hx hA
      obtain ⟨_, _, u, u1, u2, u3, u4⟩ := near hYF hl hz hcx hx hY
      rw [hno u u1 u2 u3] at u4; cases u4
end Go.Proofs.YtafecnlaodgmkaaGreatDoor
namespace Go.Proofs.YtafecnlaodgmkaaGreatDoor
set_option linter.unusedVariables false
set_option linter.unusedSimpArgs false
open Go.ChangeShapes Go.WideShapes Go.ChangeAt Go.RowKit
abbrev Mom := Int × Int
def inM (YF : Int → Int) (lo hi : Int) (l : Lin) (y : Int) : Bool := (atV l (YF l.s) y).2 && decide (lo ≤ (atV l (YF l.s) y).1) && decide ((atV l (YF l.s) y).1 < hi)
def yrM (YF : Int → Int) (lo hi : Int) (ls : List Lin) (y : Int) : Nat → List Mom
  | 0 => []
  | k + 1 => yrM YF lo hi ls y k ++ (match ls[k]? with
    | some l => if inM YF lo hi l y = true then [((atV l (YF l.s) y).1, (k : Int))] else []
    | none => [])
theorem yrM_yes {YF : Int → Int} {lo hi : Int} {ls : List Lin} {y : Int} {k : Nat} (hk : k < ls.length) (h : inM YF lo hi ls[k] y = true) : yrM YF lo hi ls y (k + 1) = yrM YF lo hi ls y k ++ [((atV ls[k] (YF ls[k].s) y).1, (k : Int))] := by
  show yrM YF lo hi ls y k ++ _ = _
  rw [List.getElem?_eq_getElem hk]
  simp only
  rw [if_pos h]
theorem yrM_no {YF : Int → Int} {lo hi : Int} {ls : List Lin} {y : Int} {k : Nat} (hk : k < ls.length) (h : inM YF lo hi ls[k] y = false) : yrM YF lo hi ls y (k + 1) = yrM YF lo hi ls y k := by
  show yrM YF lo hi ls y k ++ _ = _
  rw [List.getElem?_eq_getElem hk]
  simp only
  rw [if_neg (by rw [h]; decide), List.append_nil]
def allM (YF : Int → Int) (lo hi : Int) (ls : List Lin) (y0 : Int) : Nat → List Mom
  | 0 => []
  | n + 1 => allM YF lo hi ls y0 n ++ yrM YF lo hi ls (y0 + (n : Int)) ls.length
theorem allM_succ (YF : Int → Int) (lo hi : Int) (ls : List Lin) (y0 : Int) (n : Nat) : allM YF lo hi ls y0 (n + 1) = allM YF lo hi ls y0 n ++ yrM YF lo hi ls (y0 + (n : Int)) ls.length := rfl
theorem yrM_len (YF : Int → Int) (lo hi : Int) (ls : List Lin) (y : Int) : ∀ k, (yrM YF lo hi ls y k).length ≤ k := by
  intro k
  induction k with
  | zero => exact Nat.le_refl _
  | succ k ih =>
    by_cases hk : k < ls.length
    · cases h : inM YF lo hi ls[k] y
      · rw [yrM_no hk h]; omega
      · rw [yrM_yes hk h, List.length_append, List.length_singleton]; omega
    · unfold yrM
      rw [List.getElem?_eq_none (by omega), List.length_append, List.length_nil]
      omega
theorem allM_len (YF : Int → Int) (lo hi : Int) (ls : List Lin) (y0 : Int) : ∀ n, (allM YF lo hi ls y0 n).length ≤ n * ls.length := by
  intro n
  induction n with
  | zero => simp [allM]
  | succ n ih =>
    rw [allM_succ, List.length_append]
    have := yrM_len YF lo hi ls (y0 + (n : Int)) ls.length
    rw [Nat.add_mul, Nat.one_mul]
    omega
theorem mem_yrM {YF : Int → Int} {lo hi : Int} {ls : List Lin} {y : Int} {e : Mom} : ∀ {k : Nat}, e ∈ yrM YF lo hi ls y k ↔ ∃ (i : Nat) (l : Lin), i < k ∧ ls[i]? = some l ∧ atV l (YF l.s) y = (e.1, true) ∧ lo ≤ e.1 ∧ e.1 < hi ∧ e.2 = (i : Int) := by
  intro k
  induction k with
  | zero =>
    constructor
    · intro h; cases h
    · rintro ⟨i, l, h, _⟩; omega
  | succ k ih =>
    unfold yrM
    rw [List.mem_append, ih]
    constructor
    · rintro (⟨i, l, h, r⟩ | h)
      · exact ⟨i, l, by omega, r⟩
      · cases hl : ls[k]? with
        | none => rw [hl] at h; cases h
        | some l =>
          rw [hl] at h
          simp only at h
          cases hi2 : inM YF lo hi l y
          · rw [hi2] at h; simp at h
          · rw [hi2, if_pos rfl] at h
            have he : e = _ := List.mem_singleton.1 h
            unfold inM at hi2
            simp only [Bool.and_eq_true, decide_eq_true_eq] at hi2
            obtain ⟨⟨b1, b2⟩, b3⟩ := hi2
            rw [he]
            exact ⟨k, l, by omega, hl, by rw [← b1], b2, b3, rfl⟩
    · rintro ⟨i, l, h, hl, ha, h1, h2, h3⟩
      by_cases e1 : i < k
      · exact Or.inl ⟨i, l, e1, hl, ha, h1, h2, h3⟩
      · obtain rfl : i = k := by omega
        right
        rw [hl]
        simp only
        have : inM YF lo hi l y = true := by unfold inM; rw [ha]; simp [h1, h2]
        rw [if_pos this, ha]
        exact List.mem_singleton.2 (Prod.ext rfl h3)
theorem mem_allM {YF : Int → Int} {lo hi : Int} {ls : List Lin} {y0 : Int} {e : Mom} : ∀ {n : Nat}, e ∈ allM YF lo hi ls y0 n ↔ ∃ (j i : Nat) (l : Lin), j < n ∧ ls[i]? = some l ∧ atV l (YF l.s) (y0 + (j : Int)) = (e.1, true) ∧ lo ≤ e.1 ∧ e.1 < hi ∧ e.2 = (i : Int) := by
  intro n
  induction n with
  | zero =>
    constructor
    · intro h; cases h
    · rintro ⟨j, i, l, h, _⟩; omega
  | succ n ih =>
    rw [allM_succ, List.mem_append, ih, mem_yrM]
    constructor
    · rintro (⟨j, i, l, h, r⟩ | ⟨i, l, h, r⟩)
      · exact ⟨j, i, l, by omega, r⟩
      · exact ⟨n, i, l, by omega, r⟩
    · rintro ⟨j, i, l, h, hl, r⟩
      by_cases e1 : j < n
      · exact Or.inl ⟨j, i, l, e1, hl, r⟩
      · obtain rfl : j = n := by omega
        exact Or.inr ⟨i, l, (List.getElem?_eq_some_iff.1 hl).1, hl, r⟩
theorem win {YF : Int → Int} (hYF : ∀ S, YIs S (YF S)) {l : Lin} (hl : OkL l) {v s f t : Int} (h : momB YF l v s) (f1 : -9999 ≤ f) (t2 : t ≤ 9999) (h1 : staI f ≤ s) (h2 : s < staI (t + 1)) : f - 1 ≤ v ∧ v ≤ t + 1 := by
  have s1 := h.2.1
  have s2 := h.2.2
  have hy := yis_sta (hYF s) s1 s2
  have a := mom_year hYF hl h s2 (Int.le_refl _)
  have b : YF s ≤ t := by
    by_cases hc : YF s ≤ t
    · exact hc
    · have := sta_le (a := t + 1) (b := YF s) (by omega); omega
  have c : f ≤ YF s := by
    by_cases hc : f ≤ YF s
    · exact hc
    · have := sta_le (a := YF s + 1) (b := f) (by omega); omega
  refine ⟨?_, by omega⟩
  rcases hl.1 with ⟨hk, _⟩ | ⟨hk, _, _, _, _, m1, m2, _, t0, t1, r0, r1⟩
  · have := (mom_at hk h).2
    rw [this, ← (mom_at hk h).1]
    omega
  · obtain ⟨_, _, e1, es⟩ := mom_rule hk h
    by_cases hc : f - 1 ≤ v
    · exact hc
    · have e2 := (yrN_bd e1).2
      have e3 := (cmN_bd v (l.m - 1).toNat).2
      have e4 := yst_365 (a := v) (b := v + 1) (by omega)
      have e5 := yst_365 (a := v + 1) (b := v + 2) (by omega)
      have e6 := yst_mono (a := v + 2) (b := f) (by omega)
      rw [sta_yst f] at h1
      generalize yrN l.dk l.dn l.dw v l.m = N at *
      generalize cmN v (l.m - 1).toNat = C at *
      omega
theorem endI_sta {t s : Int} (h : t ≤ 9999) : s < staI (t + 1) ↔ s ≤ endI t := by
  unfold endI
  by_cases e : 9999 ≤ t
  · rw [if_pos e, show t + 1 = 10000 by omega, sta_max]; omega
  · rw [if_neg e]; omega
def onceL (D : Array Mom) : Nat → List Mom
  | 0 => []
  | k + 1 => onceL D k ++ (if k = 0 ∨ D[k]!.1 ≠ D[k - 1]!.1 then [D[k]!] else [])
theorem onceL_len (D : Array Mom) : ∀ k, (onceL D k).length ≤ k := by
  intro k
  induction k with
  | zero => exact Nat.le_refl _
  | succ k ih => unfold onceL; rw [List.length_append]; split <;> simp <;> omega
theorem onceL_yes {D : Array Mom} {k : Nat} (h : k = 0 ∨ D[k]!.1 ≠ D[k - 1]!.1) : onceL D (k + 1) = onceL D k ++ [D[k]!] := by
  show onceL D k ++ _ = _
  rw [if_pos h]
theorem onceL_no {D : Array Mom} {k : Nat} (h0 : k ≠ 0) (h : D[k]!.1 = D[k - 1]!.1) : onceL D (k + 1) = onceL D k := by
  show onceL D k ++ _ = _
  rw [if_neg (fun e => by rcases e with e | e; exact h0 e; exact e h), List.append_nil]
theorem mem_once {D : Array Mom} {e : Mom} : ∀ {k : Nat}, e ∈ onceL D k ↔ ∃ i, i < k ∧ e = D[i]! ∧ (i = 0 ∨ D[i]!.1 ≠ D[i - 1]!.1) := by
  intro k
  induction k with
  | zero =>
    constructor
    · intro h; cases h
    · rintro ⟨i, h, _⟩; omega
  | succ k ih =>
    unfold onceL
    rw [List.mem_append, ih]
    constructor
    · rintro (⟨i, h, r⟩ | h)
      · exact ⟨i, by omega, r⟩
      · split at h
        · rename_i hc
          exact ⟨k, by omega, List.mem_singleton.1 h, hc⟩
        · cases h
    · rintro ⟨i, h, he, hc⟩
      by_cases e1 : i < k
      · exact Or.inl ⟨i, e1, he, hc⟩
      · obtain rfl : i = k := by omega
        right
        rw [if_pos hc]
        exact List.mem_singleton.2 he
def SrtM (D : Array Mom) : Prop := ∀ i j, i < j → j < D.size → D[i]!.1 < D[j]!.1 ∨ (D[i]!.1 = D[j]!.1 ∧ D[j]!.2 ≤ D[i]!.2)
theorem once_rise {D : Array Mom} (h : SrtM D) : ∀ k, k ≤ D.size → ((onceL D k).map (·.1)).Pairwise (· < ·) ∧ ∀ e ∈ onceL D k, ∀ j, k ≤ j + 1 → j < D.size → e.1 ≤ D[j]!.1 := by
  intro k
  induction k with
  | zero => intro _; exact ⟨List.Pairwise.nil, fun e he => by cases he⟩
  | succ k ih =>
    intro hk
    obtain ⟨h1, h2⟩ := ih (by omega)
    have hle : ∀ i j, i ≤ j → j < D.size → D[i]!.1 ≤ D[j]!.1 := fun i j hij hj => by
      by_cases e : i = j
      · subst e; exact Int.le_refl _
      · rcases h i j (by omega) hj with e | ⟨e, _⟩ <;> omega
    by_cases hc : k = 0 ∨ D[k]!.1 ≠ D[k - 1]!.1
    · rw [onceL_yes hc]
      refine ⟨?_, fun e he j hj hj2 => ?_⟩
      · rw [List.map_append, List.pairwise_append]
        refine ⟨h1, by simp, fun a ha b hb => ?_⟩
        obtain ⟨e, he, rfl⟩ := List.mem_map.1 ha
        simp at hb
        subst hb
        obtain ⟨i, hi, _⟩ := mem_once.1 he
        have h3 := h2 e he (k - 1) (by omega) (by omega)
        have h4 := hle (k - 1) k (by omega) (by omega)
        rcases hc with hc | hc
        · omega
        · omega
      · rcases List.mem_append.1 he with he | he
        · exact h2 e he j (by omega) hj2
        · obtain rfl := List.mem_singleton.1 he
          exact hle k j (by omega) hj2
    · have hc2 : k ≠ 0 ∧ D[k]!.1 = D[k - 1]!.1 := by
        constructor
        · exact fun e => hc (Or.inl e)
        · exact Classical.not_not.1 (fun e => hc (Or.inr e))
      rw [onceL_no hc2.1 hc2.2]
      exact ⟨h1, fun e he j hj hj2 => h2 e he j (by omega) hj2⟩
theorem once_all {D : Array Mom} : ∀ i, i < D.size → ∃ e ∈ onceL D D.size, e.1 = D[i]!.1 := by
  intro i
  induction i with
  | zero => intro hi; exact ⟨D[0]!, mem_once.2 ⟨0, hi, rfl, Or.inl rfl⟩, rfl⟩
  | succ i ih =>
    intro hi
    by_cases hc : D[i + 1]!.1 = D[i]!.1
    · obtain ⟨e, he, h⟩ := ih (by omega)
      exact ⟨e, he, h.trans hc.symm⟩
    · exact ⟨D[i + 1]!, mem_once.2 ⟨i + 1, hi, rfl, Or.inr (by simpa using hc)⟩, rfl⟩
theorem once_first {D : Array Mom} (h : SrtM D) {e : Mom} (he : e ∈ onceL D D.size) {j : Nat} (hj : j < D.size) (hs : D[j]!.1 = e.1) : D[j]!.2 ≤ e.2 := by
  obtain ⟨i, hi, rfl, hc⟩ := mem_once.1 he
  rcases Nat.lt_trichotomy i j with h1 | h1 | h1
  · rcases h i j h1 hj with h2 | ⟨_, h2⟩
    · omega
    · exact h2
  · subst h1; exact Int.le_refl _
  · rcases hc with hc | hc
    · omega
    · have h2 : D[j]!.1 ≤ D[i - 1]!.1 := by
        by_cases e : j = i - 1
        · subst e; exact Int.le_refl _
        · rcases h j (i - 1) (by omega) (by omega) with e | ⟨e, _⟩ <;> omega
      rcases h (i - 1) i (by omega) hi with h3 | ⟨h3, _⟩
      · omega
      · exact absurd h3.symm hc
def chgM (ls : List Lin) (m : Mom) : Chg := (m.1, (ls[m.2.toNat]?).elim (0, false, []) triOf)
theorem ev_of {YF : Int → Int} (hYF : ∀ S, YIs S (YF S)) {ls : List Lin} (hOk : ∀ l ∈ ls, OkL l) {f t : Int} (f1 : -9999 ≤ f) (hft : f ≤ t) (t2 : t ≤ 9999) {n : Nat} (hn : (n : Int) = t - f + 3) {D : Array Mom} (hD : ∀ e, e ∈ D.toList ↔ e ∈ allM YF (staI f) (staI (t + 1)) ls (f - 1) n) (hS : SrtM D) :
    IsEv YF ls (staI f) (endI t) ((onceL D D.size).map (chgM ls)) := by
  have hin : ∀ i, i < D.size → D[i]! ∈ D.toList := fun i hi => by
    rw [getElem!_pos D i hi]; exact Array.getElem_mem_toList hi
  have hmap : ((onceL D D.size).map (chgM ls)).map (·.1) = (onceL D D.size).map (·.1) := by rw [List.map_map]; rfl
  have hmin := staI_min f1
  have hmax := endI_max t2
  refine ⟨?_, ?_, ?_⟩
  · rw [hmap]; exact (once_rise hS D.size (Nat.le_refl _)).1
  · intro e he
    obtain ⟨m, hm, rfl⟩ := List.mem_map.1 he
    obtain ⟨i, hi, hmi, _⟩ := mem_once.1 hm
    have h1 := (hD m).1 (by rw [hmi]; exact hin i hi)
    obtain ⟨j, q, l, hj, hl, ha, hlo, hhi, hq⟩ := mem_allM.1 h1
    have hhi2 := (endI_sta t2).1 hhi
    refine ⟨hlo, hhi2, q, l, hl, ⟨_, ha, by show _ ≤ m.1; omega, by show m.1 ≤ _; omega⟩, ?_, ?_⟩
    · show ((ls[m.2.toNat]?).elim (0, false, []) triOf : Tri) = _
      rw [hq, Int.toNat_natCast, hl]
      rfl
    · intro p k hp hk y hy
      have hy1 : y = f - 1 + ((y - (f - 1)).toNat : Int) := by
        have := win hYF (hOk k (List.mem_of_getElem? hk)) hy f1 t2 hlo hhi
        omega
      have hy2 := (win hYF (hOk k (List.mem_of_getElem? hk)) hy f1 t2 hlo hhi)
      have hmem : ((m.1, (p : Int)) : Mom) ∈ D.toList := (hD _).2 (mem_allM.2 ⟨(y - (f - 1)).toNat, p, k, by omega, hk, by rw [← hy1]; exact hy.1, hlo, hhi, rfl⟩)
      obtain ⟨u, hu, hu2⟩ := Array.mem_iff_getElem.1 (Array.mem_toList_iff.1 hmem)
      have hu3 : D[u]! = (m.1, (p : Int)) := by rw [getElem!_pos D u hu]; exact hu2
      have := once_first hS hm hu (by rw [hu3])
      rw [hu3, hq] at this
      have h5 : (p : Int) ≤ (q : Int) := this
      omega
  · intro i l y s hl hm h1 h2
    have h3 := (endI_sta t2).2 h2
    have hw := win hYF (hOk l (List.mem_of_getElem? hl)) hm f1 t2 h1 h3
    have hmem : ((s, (i : Int)) : Mom) ∈ D.toList := (hD _).2 (mem_allM.2 ⟨(y - (f - 1)).toNat, i, l, by omega, hl, by rw [show f - 1 + ((y - (f - 1)).toNat : Int) = y by omega]; exact hm.1, h1, h3, rfl⟩)
    obtain ⟨u, hu, hu2⟩ := Array.mem_iff_getElem.1 (Array.mem_toList_iff.1 hmem)
    have hu3 : D[u]! = (s, (i : Int)) := by rw [getElem!_pos D u hu]; exact hu2
    obtain ⟨e, he, hes⟩ := once_all (D := D) u hu
    rw [hu3] at hes
    exact ⟨chgM ls e, List.mem_map.2 ⟨e, he, rfl⟩, hes⟩
end Go.Proofs.YtafecnlaodgmkaaGreatDoor
namespace Go.Proofs.YtafecnlaodgmkaaGreatDoor
set_option linter.unusedVariables false
set_option linter.unusedSimpArgs false
open Go.ChangeShapes Go.WideShapes Go.ChangeAt Go.RowKit
def cmM (x y : Mom) : Int := if Lib.compareInt x.1 y.1 = 0 then Lib.compareInt y.2 x.2 else Lib.compareInt x.1 y.1
set_option maxHeartbeats 1600000 in
set_option maxRecDepth 100000 in
theorem xOr2_any (x y : Int) (b : Nat) (w : World) (c0 : w.cell? ⟨b, 0, none⟩ = some (.int .i64 x)) (c1 : w.cell? ⟨b, 1, none⟩ = some (.int .i64 y)) :
    Calls Tryz.prog 97 #[.slice (some ⟨b, 0, none⟩) 2 2] w fun e w' => e = .returned (.int .i64 (if x = 0 then y else x)) ∧ w = w' := by
  by_cases h1 : x = 0
  · subst h1
    rw [if_pos rfl]
    by_cases h2 : y = 0
    · subst h2
      go_enter Tryz.func97, Tryz.ntmps97
      go_wp2
      refine wp_loop_rounds 3 ?_
      rw [rounds_succ]
      go_wp2
      rw [rounds_succ]
      go_wp2
      rw [rounds_succ]
      go_wp2
      go_ret
      exact ⟨rfl, rfl⟩
    · have f3 : (y != 0) = true := by rw [bne_iff_ne]; exact h2
      clear h2
      go_enter Tryz.func97, Tryz.ntmps97
      go_wp2
      refine wp_loop_rounds 3 ?_
      rw [rounds_succ]
      go_wp2
      rw [rounds_succ]
      go_wp2
      go_ret
      exact ⟨rfl, rfl⟩
  · have f3 : (x != 0) = true := by rw [bne_iff_ne]; exact h1
    rw [if_neg h1]
    clear h1
    go_enter Tryz.func97, Tryz.ntmps97
    go_wp2
    refine wp_loop_rounds 3 ?_
    rw [rounds_succ]
    go_wp2
    go_ret
    exact ⟨rfl, rfl⟩
set_option maxHeartbeats 3200000 in
set_option maxRecDepth 100000 in
theorem xCompare_any (x1 x2 y1 y2 : Int) (w : World) : Calls Tryz.prog 69 #[.agg #[.int .i64 x1, .int .i64 x2], .agg #[.int .i64 y1, .int .i64 y2]] w fun e w' => e = .returned (.int .i64 (cmM (x1, x2) (y1, y2))) ∧ ∃ q os', w' = Go.Sort.grow (w.drewN q) os' := by
  have H1 := Lib.hid (Tryz.cmp_Compare_int x1 y1)
  have H2 := Lib.hid (Tryz.cmp_Compare_int y2 x2)
  have E : Hid (cmM (x1, x2) (y1, y2) = if Lib.compareInt x1 y1 = 0 then Lib.compareInt y2 x2 else Lib.compareInt x1 y1) := Lib.hid rfl
  generalize cmM (x1, x2) (y1, y2) = R at *
  generalize Lib.compareInt x1 y1 = c1 at *
  generalize Lib.compareInt y2 x2 = c2 at *
  have H3 : Hid (∀ (b : Nat) (w : World), w.cell? ⟨b, 0, none⟩ = some (.int .i64 c1) → w.cell? ⟨b, 1, none⟩ = some (.int .i64 c2) → Calls Tryz.prog 97 #[.slice (some ⟨b, 0, none⟩) 2 2] w fun e w' => e = .returned (.int .i64 R) ∧ w = w') := Lib.hid (fun b w h0 h1 => by have := xOr2_any c1 c2 b w h0 h1; rw [← E.out] at this; exact this)
  have W0 : ∀ (W : World), W = (w.alloc (.cells #[.int .i64 x1, .int .i64 x2] 91)).alloc (.cells #[.int .i64 y1, .int .i64 y2] 91) → W.cell? ⟨w.heap.size, 0, none⟩ = some (.int .i64 x1) ∧ W.cell? ⟨w.heap.size, 1, none⟩ = some (.int .i64 x2) ∧ W.cell? ⟨w.heap.size + 1, 0, none⟩ = some (.int .i64 y1) ∧ W.cell? ⟨w.heap.size + 1, 1, none⟩ = some (.int .i64 y2) ∧ w.heap.size + 1 < W.heap.size := by
    rintro W rfl
    have a := heap_alloc_new (w.alloc (.cells #[.int .i64 x1, .int .i64 x2] 91)) (.cells #[.int .i64 y1, .int .i64 y2] 91)
    have b := row_alloc (heap_alloc_new w (.cells #[.int .i64 x1, .int .i64 x2] 91)) (.cells #[.int .i64 y1, .int .i64 y2] 91)
    rw [show (w.alloc (.cells #[.int .i64 x1, .int .i64 x2] 91)).heap.size = w.heap.size + 1 by simp] at a
    exact ⟨cry b, cry b, cry a, cry a, by simp⟩
  go_enter Tryz.func69, Tryz.ntmps69
  go_wp2_with fail
  obtain ⟨W, hW⟩ : ∃ W, W = (w.alloc (.cells #[.int .i64 x1, .int .i64 x2] 91)).alloc (.cells #[.int .i64 y1, .int .i64 y2] 91) := ⟨_, rfl⟩
  rw [← hW]
  obtain ⟨s0, s1, s2, s3, zl⟩ := W0 W hW
  replace hW := Lib.hid hW
  clear W0
  refine region_plan (S := fun w2 => w2.cell? ⟨w.heap.size, 0, none⟩ = some (.int .i64 x1) ∧ w2.cell? ⟨w.heap.size, 1, none⟩ = some (.int .i64 x2) ∧ w2.cell? ⟨w.heap.size + 1, 0, none⟩ = some (.int .i64 y1) ∧ w2.cell? ⟨w.heap.size + 1, 1, none⟩ = some (.int .i64 y2)) [(0, true), (1, true), (2, true), (3, true), (5, true), (6, true), (7, true), (8, true), (4, false), (9, false), (10, false), (11, false), (12, true)] (by as_aux_lemma => kernel_rfl) (by as_aux_lemma => kernel_rfl) (by as_aux_lemma => kernel_rfl) (by as_aux_lemma => kernel_rfl) ⟨by rw [World.cell?_drew]; exact s0, by rw [World.cell?_drew]; exact s1, by rw [World.cell?_drew]; exact s2, by rw [World.cell?_drew]; exact s3⟩ ?_
  refine plan_yes (v := ?va0) (by simp only [List.getElem?_toArray, List.getElem?_cons_zero, List.getElem?_cons_succ]; exact rfl) (Or.inl ⟨by as_aux_lemma => rfl, ?hya0⟩) ?resta0
  case hya0 => (intro w2 hSw; (try dsimp only at hSw); obtain ⟨r0, r1, r2, r3⟩ := hSw; go_simp; try with_reducible rfl)
  try simp only [Act.put, List.setIfInBounds_toArray, List.set_cons_zero, List.set_cons_succ]
  refine plan_yes (v := ?va1) (by simp only [List.getElem?_toArray, List.getElem?_cons_zero, List.getElem?_cons_succ]; exact rfl) (Or.inl ⟨by as_aux_lemma => rfl, ?hya1⟩) ?resta1
  case hya1 => (intro w2 hSw; (try dsimp only at hSw); obtain ⟨r0, r1, r2, r3⟩ := hSw; go_simp; try with_reducible rfl)
  try simp only [Act.put, List.setIfInBounds_toArray, List.set_cons_zero, List.set_cons_succ]
  refine plan_yes (v := ?va2) (by simp only [List.getElem?_toArray, List.getElem?_cons_zero, List.getElem?_cons_succ]; exact rfl) (Or.inl ⟨by as_aux_lemma => rfl, ?hya2⟩) ?resta2
  case hya2 => (intro w2 hSw; (try dsimp only at hSw); obtain ⟨r0, r1, r2, r3⟩ := hSw; go_simp; try with_reducible rfl)
  try simp only [Act.put, List.setIfInBounds_toArray, List.set_cons_zero, List.set_cons_succ]
  refine plan_yes (v := ?va3) (by simp only [List.getElem?_toArray, List.getElem?_cons_zero, List.getElem?_cons_succ]; exact rfl) (Or.inl ⟨by as_aux_lemma => rfl, ?hya3⟩) ?resta3
  case hya3 => (intro w2 hSw; (try dsimp only at hSw); obtain ⟨r0, r1, r2, r3⟩ := hSw; go_simp; try with_reducible rfl)
  try simp only [Act.put, List.setIfInBounds_toArray, List.set_cons_zero, List.set_cons_succ]
  refine plan_yes (v := ?va5) (by simp only [List.getElem?_toArray, List.getElem?_cons_zero, List.getElem?_cons_succ]; exact rfl) (Or.inl ⟨by as_aux_lemma => rfl, ?hya5⟩) ?resta5
  case hya5 => (intro w2 hSw; (try dsimp only at hSw); obtain ⟨r0, r1, r2, r3⟩ := hSw; go_simp; try with_reducible rfl)
  try simp only [Act.put, List.setIfInBounds_toArray, List.set_cons_zero, List.set_cons_succ]
  refine plan_yes (v := ?va6) (by simp only [List.getElem?_toArray, List.getElem?_cons_zero, List.getElem?_cons_succ]; exact rfl) (Or.inl ⟨by as_aux_lemma => rfl, ?hya6⟩) ?resta6
  case hya6 => (intro w2 hSw; (try dsimp only at hSw); obtain ⟨r0, r1, r2, r3⟩ := hSw; go_simp; try with_reducible rfl)
  try simp only [Act.put, List.setIfInBounds_toArray, List.set_cons_zero, List.set_cons_succ]
  refine plan_yes (v := ?va7) (by simp only [List.getElem?_toArray, List.getElem?_cons_zero, List.getElem?_cons_succ]; exact rfl) (Or.inl ⟨by as_aux_lemma => rfl, ?hya7⟩) ?resta7
  case hya7 => (intro w2 hSw; (try dsimp only at hSw); obtain ⟨r0, r1, r2, r3⟩ := hSw; go_simp; try with_reducible rfl)
  try simp only [Act.put, List.setIfInBounds_toArray, List.set_cons_zero, List.set_cons_succ]
  refine plan_yes (v := ?va8) (by simp only [List.getElem?_toArray, List.getElem?_cons_zero, List.getElem?_cons_succ]; exact rfl) (Or.inl ⟨by as_aux_lemma => rfl, ?hya8⟩) ?resta8
  case hya8 => (intro w2 hSw; (try dsimp only at hSw); obtain ⟨r0, r1, r2, r3⟩ := hSw; go_simp; try with_reducible rfl)
  try simp only [Act.put, List.setIfInBounds_toArray, List.set_cons_zero, List.set_cons_succ]
  refine plan_calls (by simp only [List.getElem?_toArray, List.getElem?_cons_zero, List.getElem?_cons_succ]; exact rfl) (by as_aux_lemma => rfl) (fun K hK => ?_)
  go_simp
  refine (H1.out _).mono ?_
  rintro e w5 ⟨rfl, rfl⟩
  refine hK.out _ _ ⟨by rw [World.cell?_drew]; exact s0, by rw [World.cell?_drew]; exact s1, by rw [World.cell?_drew]; exact s2, by rw [World.cell?_drew]; exact s3⟩ ?_
  clear hK K
  try simp only [Act.put, List.setIfInBounds_toArray, List.set_cons_zero, List.set_cons_succ]
  refine plan_calls (by simp only [List.getElem?_toArray, List.getElem?_cons_zero, List.getElem?_cons_succ]; exact rfl) (by as_aux_lemma => rfl) (fun K hK => ?_)
  go_simp
  refine (H2.out _).mono ?_
  rintro e w5 ⟨rfl, rfl⟩
  refine hK.out _ _ ⟨by rw [World.cell?_drew]; exact s0, by rw [World.cell?_drew]; exact s1, by rw [World.cell?_drew]; exact s2, by rw [World.cell?_drew]; exact s3⟩ ?_
  clear hK K
  try simp only [Act.put, List.setIfInBounds_toArray, List.set_cons_zero, List.set_cons_succ]
  refine plan_calls (by simp only [List.getElem?_toArray, List.getElem?_cons_zero, List.getElem?_cons_succ]; exact rfl) (by as_aux_lemma => rfl) (fun K hK => ?_)
  go_simp
  have hks : ∀ (k : Nat) (c : Nat) (v : Value), k < W.heap.size → W.cell? ⟨k, c, none⟩ = some v → (W.drew.alloc (.cells #[.int .i64 c1, .int .i64 c2] 3)).cell? ⟨k, c, none⟩ = some v := fun k c v hk h => (((Below.refl _ W).drew.alloc (Nat.le_refl _) (.cells #[.int .i64 c1, .int .i64 c2] 3)).cell (p := ⟨k, c, none⟩) hk).trans h
  have t0 := hks _ _ _ (by omega) s0
  have t1 := hks _ _ _ (by omega) s1
  have t2 := hks _ _ _ (by omega) s2
  have t3 := hks _ _ _ (by omega) s3
  refine hK.out _ _ ⟨t0, t1, t2, t3⟩ ?_
  clear hK K hks
  try simp only [Act.put, List.setIfInBounds_toArray, List.set_cons_zero, List.set_cons_succ]
  refine plan_calls (by simp only [List.getElem?_toArray, List.getElem?_cons_zero, List.getElem?_cons_succ]; exact rfl) (by as_aux_lemma => rfl) (fun K hK => ?_)
  go_simp
  refine (H3.out _ _ (by simp [go_sem]) (by simp [go_sem])).mono ?_
  rintro e w5 ⟨rfl, rfl⟩
  refine hK.out _ _ ⟨t0, t1, t2, t3⟩ ?_
  clear hK K
  try simp only [Act.put, List.setIfInBounds_toArray, List.set_cons_zero, List.set_cons_succ]
  refine plan_yes (v := ?va12) (by simp only [List.getElem?_toArray, List.getElem?_cons_zero, List.getElem?_cons_succ]; exact rfl) (Or.inl ⟨by as_aux_lemma => rfl, ?hya12⟩) ?resta12
  case hya12 => (intro w2 hSw; (try dsimp only at hSw); obtain ⟨r0, r1, r2, r3⟩ := hSw; go_simp; try with_reducible rfl)
  try simp only [Act.put, List.setIfInBounds_toArray, List.set_cons_zero, List.set_cons_succ]
  refine plan_done (NoPanic.normal ?_)
  go_simp
  go_wp2
  go_ret
  refine ⟨rfl, 1, #[.cells #[.int .i64 x1, .int .i64 x2] 91, .cells #[.int .i64 y1, .int .i64 y2] 91, .cells #[.int .i64 c1, .int .i64 c2] 3], ?_⟩
  rw [hW.out]
  have e1 : ∀ (A B C : Obj), (((w.alloc A).alloc B).alloc C).drew = (((w.drewN 1).alloc A).alloc B).alloc C := fun A B C => rfl
  rw [e1, Go.Sort.alloc_eq_grow, Go.Sort.alloc_eq_grow, Go.Sort.alloc_eq_grow, Go.Sort.grow_grow, Go.Sort.grow_grow]
  rfl
end Go.Proofs.YtafecnlaodgmkaaGreatDoor
namespace Go.Proofs.YtafecnlaodgmkaaGreatDoor
set_option linter.unusedVariables false
set_option linter.unusedSimpArgs false
open Go.ChangeShapes Go.WideShapes Go.ChangeAt Go.RowKit
def momV (m : Mom) : List Value := [.int .i64 m.1, .int .i64 m.2]
def momVs (L : List Mom) : List Value := L.flatMap momV
theorem momVs_at : ∀ (T : List Mom) (k : Nat) (hk : k < T.length) (j : Nat) (hj : j < 2), (momVs T)[k * 2 + j]? = (momV T[k])[j]? := by
  intro T
  induction T with
  | nil => intro k hk; simp at hk
  | cons x T ih =>
    intro k hk j hj
    have hl : (momV x).length = 2 := rfl
    unfold momVs at *
    rw [List.flatMap_cons]
    cases k with
    | zero => rw [List.getElem?_append_left (by omega)]; simp
    | succ k =>
      rw [List.getElem?_append_right (by omega), hl, show (k + 1) * 2 + j - 2 = k * 2 + j by omega, ih k (by simpa using hk) j hj]
      simp
theorem momVs_len (T : List Mom) : (momVs T).length = T.length * 2 := by
  induction T with
  | nil => rfl
  | cons x T ih =>
    unfold momVs at *
    rw [List.flatMap_cons, List.length_append, ih, List.length_cons]
    show 2 + T.length * 2 = _
    omega
theorem momVs_snoc (T : List Mom) (m : Mom) : momVs (T ++ [m]) = momVs T ++ momV m := by
  unfold momVs
  rw [List.flatMap_append]
  simp
structure RowM (w : World) (g o : Nat) (D : Array Mom) : Prop where
  lt : g < w.heap.size
  c0 : ∀ i, i < D.size → w.cell? ⟨g, o + i * 2, none⟩ = some (.int .i64 D[i]!.1)
  c1 : ∀ i, i < D.size → w.cell? ⟨g, o + i * 2 + 1, none⟩ = some (.int .i64 D[i]!.2)
  f0 : ∀ i, i < D.size → w.frozen? ⟨g, o + i * 2, none⟩ = false
  f1 : ∀ i, i < D.size → w.frozen? ⟨g, o + i * 2 + 1, none⟩ = false
theorem RowM.below {w w' : World} {g o n : Nat} {D : Array Mom} (h : RowM w g o D) (hb : Below n w w') (hn : g < n) : RowM w' g o D :=
  ⟨Nat.lt_of_lt_of_le h.lt hb.size, fun i hi => (hb.cell (p := ⟨g, o + i * 2, none⟩) hn).trans (h.c0 i hi), fun i hi => (hb.cell (p := ⟨g, o + i * 2 + 1, none⟩) hn).trans (h.c1 i hi),
    fun i hi => (hb.frozen (p := ⟨g, o + i * 2, none⟩) hn).trans (h.f0 i hi), fun i hi => (hb.frozen (p := ⟨g, o + i * 2 + 1, none⟩) hn).trans (h.f1 i hi)⟩
theorem ad_ne {g a b : Nat} (h : a ≠ b) : (⟨g, a, none⟩ : Addr) ≠ ⟨g, b, none⟩ := fun e => h (by injection e)
theorem sc_other {w : World} {g a b : Nat} {v : Value} (h : a ≠ b) : (w.setCell ⟨g, a, none⟩ v).cell? ⟨g, b, none⟩ = w.cell? ⟨g, b, none⟩ := by
  apply World.cell?_setCell_other
  exact ad_ne h
theorem sc_same {w : World} {g a : Nat} {u v : Value} (h : w.cell? ⟨g, a, none⟩ = some u) : (w.setCell ⟨g, a, none⟩ v).cell? ⟨g, a, none⟩ = some v :=
  World.cell?_setCell_same' _ _ _ (by rw [h]; rfl)
theorem RowM.set {w : World} {g o k : Nat} {D : Array Mom} (h : RowM w g o D) (hk : k < D.size) (x : Mom) :
    RowM ((w.setCell ⟨g, o + k * 2, none⟩ (.int .i64 x.1)).setCell ⟨g, o + k * 2 + 1, none⟩ (.int .i64 x.2)) g o (D.setIfInBounds k x) := by
  have hs : (D.setIfInBounds k x).size = D.size := by simp
  refine ⟨?_, fun i hi => ?_, fun i hi => ?_, fun i hi => ?_, fun i hi => ?_⟩
  · have : ((w.setCell ⟨g, o + k * 2, none⟩ (.int .i64 x.1)).setCell ⟨g, o + k * 2 + 1, none⟩ (.int .i64 x.2)).heap.size = w.heap.size := by simp [World.setCell]
    rw [this]; exact h.lt
  · rw [hs] at hi
    by_cases e : i = k
    · subst e
      rw [sc_other (by omega), sc_same (h.c0 i hi), Go.Sort.getElem!_set_same D i x hi]
    · rw [sc_other (by omega), sc_other (by omega), h.c0 i hi, Go.Sort.getElem!_set_other D k i x e]
  · rw [hs] at hi
    by_cases e : i = k
    · subst e
      rw [sc_same ((sc_other (by omega)).trans (h.c1 i hi)), Go.Sort.getElem!_set_same D i x hi]
    · rw [sc_other (by omega), sc_other (by omega), h.c1 i hi, Go.Sort.getElem!_set_other D k i x e]
  · rw [hs] at hi
    rw [World.frozen?_setCell, World.frozen?_setCell]; exact h.f0 i hi
  · rw [hs] at hi
    rw [World.frozen?_setCell, World.frozen?_setCell]; exact h.f1 i hi
theorem RowM.rd {w : World} {g o : Nat} {D : Array Mom} {L : List Mom} (hg : g < w.heap.size) (h : ∀ i, i < L.length → w.cell? ⟨g, o + i * 2, none⟩ = some (.int .i64 L[i]!.1) ∧ w.cell? ⟨g, o + i * 2 + 1, none⟩ = some (.int .i64 L[i]!.2)) : Rd w (some ⟨g, o, none⟩) (momVs L) := by
  intro j u hu
  refine ⟨g, o, rfl, hg, ?_⟩
  have hj : j < L.length * 2 := by
    have := (List.getElem?_eq_some_iff.1 hu).1
    rwa [momVs_len] at this
  have hd : j = j / 2 * 2 + j % 2 := by omega
  have hi : j / 2 < L.length := by omega
  have hat := momVs_at L (j / 2) hi (j % 2) (by omega)
  rw [← hd, hu] at hat
  obtain ⟨h0, h1⟩ := h (j / 2) hi
  rw [getElem!_pos L (j / 2) hi] at h0 h1
  rcases Nat.mod_two_eq_zero_or_one j with e | e
  · rw [e] at hat
    obtain rfl : u = .int .i64 L[j / 2].1 := by simpa [momV] using hat
    rw [show o + j = o + j / 2 * 2 by omega]; exact h0
  · rw [e] at hat
    obtain rfl : u = .int .i64 L[j / 2].2 := by simpa [momV] using hat
    rw [show o + j = o + j / 2 * 2 + 1 by omega]; exact h1
theorem Rd.mom {w : World} {A : Option Addr} {T : List Mom} (h : Rd w A (momVs T)) {k : Nat} (hk : k < T.length) :
    ∃ b o, A = some ⟨b, o, none⟩ ∧ b < w.heap.size ∧ ∀ i (hi : i < T.length), w.cell? ⟨b, o + i * 2, none⟩ = some (.int .i64 T[i].1) ∧ w.cell? ⟨b, o + i * 2 + 1, none⟩ = some (.int .i64 T[i].2) := by
  have h0 := momVs_at T k hk 0 (by decide)
  obtain ⟨b, o, hA, hb, _⟩ := h _ _ h0
  refine ⟨b, o, hA, hb, fun i hi => ?_⟩
  have key : ∀ j (hj : j < 2) u, (momV T[i])[j]? = some u → w.cell? ⟨b, o + i * 2 + j, none⟩ = some u := by
    intro j hj u hu
    have := h.at_ hA ((momVs_at T i hi j hj).trans hu)
    rwa [← Nat.add_assoc] at this
  exact ⟨key 0 (by decide) _ rfl, key 1 (by decide) _ rfl⟩
theorem run_clearM (w : World) (ty : TypeId) (g o n c : Nat) (hn : 0 < n) (hc : ∀ j, j < n * 2 → (w.cell? ⟨g, o + j, none⟩).isSome = true) (hf : ∀ j, j < n * 2 → w.frozen? ⟨g, o + j, none⟩ = false) :
    ∃ zs : List Value, zs.length = n * 2 ∧ (Builtin.clear_ #[88] ty #[.slice (some ⟨g, o, none⟩) n c]).run Tryz.prog w = .ok (.tuple #[]) (w.setCells g o zs) := by
  refine ⟨(Builtin.zeroCells #[.int .i64 0, .int .i64 0] n).toList, by simp [Builtin.zeroCells], ?_⟩
  have hl : (Builtin.zeroCells #[.int .i64 0, .int .i64 0] n).toList.length = n * 2 := by simp [Builtin.zeroCells]
  have h1 : ∀ v ∈ (Builtin.zeroCells #[.int .i64 0, .int .i64 0] n).toList, v.oneCell' = true := by
    intro v hv
    simp [Builtin.zeroCells] at hv
    obtain ⟨i, _, rfl⟩ := hv
    rcases Nat.mod_two_eq_zero_or_one i with e | e <;> rw [e] <;> rfl
  have hst := run_storeCells_cells (P := Tryz.prog) g o (Builtin.zeroCells #[.int .i64 0, .int .i64 0] n).toList 0 w (by rw [hl]; simpa using hc) (by rw [hl]; simpa using hf) h1
  simp only [Nat.add_zero] at hst
  have hz : ∀ w, (zeroValue 91).run Tryz.prog w = .ok (.agg #[.int .i64 0, .int .i64 0]) w := Tryz.zeroValue91
  obtain ⟨m, rfl⟩ : ∃ m, n = m + 1 := ⟨n - 1, by omega⟩
  simp [Builtin.clear_, run_underlying Tryz.underlying88, hz, Value.cells, hst]
theorem kept_once (D : Array Mom) : ∀ k, Go.Lib.keptUpTo (fun j => decide (j = 0 ∨ D[j]!.1 ≠ D[j - 1]!.1)) D k = onceL D k := by
  intro k
  induction k with
  | zero => rfl
  | succ k ih =>
    rw [Go.Lib.keptUpTo_succ, ih]
    by_cases h : k = 0 ∨ D[k]!.1 ≠ D[k - 1]!.1
    · rw [onceL_yes h, decide_eq_true h, if_pos rfl]
    · rw [decide_eq_false h, if_neg (by decide), List.append_nil]
      rw [onceL_no (fun e => h (Or.inl e)) (Classical.not_not.1 (fun e => h (Or.inr e)))]
set_option maxHeartbeats 1600000 in
theorem xMeets_any (x1 x2 y1 y2 : Int) (w : World) : Calls Tryz.prog 71 #[.agg #[.int .i64 x1, .int .i64 x2], .agg #[.int .i64 y1, .int .i64 y2]] w fun e w' => e = .returned (.bool (x1 == y1)) ∧ Below w.heap.size w w' := by
  go_enter Tryz.func71, Tryz.ntmps71
  go_wp2
  go_ret
  exact ⟨rfl, ((Below.refl _ w).alloc (Nat.le_refl _) _).alloc (by simp) _⟩
end Go.Proofs.YtafecnlaodgmkaaGreatDoor
namespace Go.Proofs.YtafecnlaodgmkaaGreatDoor
set_option linter.unusedVariables false
set_option linter.unusedSimpArgs false
open Go.ChangeShapes Go.WideShapes Go.ChangeAt Go.RowKit
set_option maxHeartbeats 1600000 in
set_option maxRecDepth 100000 in
theorem xCompact_few (p : Option Addr) (n cap : Nat) (hn : n < 2) (f : Value) (w : World) : Calls Tryz.prog 70 #[.slice p n cap, f] w fun e w' => e = .returned (.slice p n cap) ∧ w' = w := by
  have d : decide ((n : Int) < 2) = true := decide_eq_true (by omega)
  go_enter Tryz.func70, Tryz.ntmps70
  go_wp2
  go_ret
  exact ⟨rfl, rfl⟩
theorem once_whole {D : Array Mom} (h : ∀ q, q < D.size → (q = 0 ∨ D[q]!.1 ≠ D[q - 1]!.1)) : ∀ k, k ≤ D.size → (onceL D k).length = k ∧ ∀ i, i < k → (onceL D k)[i]! = D[i]! := by
  intro k
  induction k with
  | zero => intro _; exact ⟨rfl, fun i hi => by omega⟩
  | succ k ih =>
    intro hk
    obtain ⟨h1, h2⟩ := ih (by omega)
    rw [onceL_yes (h k (by omega))]
    refine ⟨by rw [List.length_append, h1, List.length_singleton], fun i hi => ?_⟩
    by_cases e : i = k
    · subst e
      rw [getElem!_pos _ i (by rw [List.length_append, h1, List.length_singleton]; omega), List.getElem_append_right (by omega)]
      simp [h1]
    · rw [getElem!_pos _ i (by rw [List.length_append, h1, List.length_singleton]; omega), List.getElem_append_left (by omega), ← h2 i (by omega), getElem!_pos (onceL D k) i (by omega)]
def kpM (D : Array Mom) (j : Nat) : Bool := decide (j = 0 ∨ D[j]!.1 ≠ D[j - 1]!.1)
theorem kpM_yes {D : Array Mom} {j : Nat} (h : D[j + 1]!.1 ≠ D[j]!.1) : kpM D (j + 1) = true := decide_eq_true (Or.inr (by simpa using h))
theorem kpM_no {D : Array Mom} {j : Nat} (h : D[j + 1]!.1 = D[j]!.1) : kpM D (j + 1) = false := decide_eq_false (fun e => by rcases e with e | e; omega; exact e (by simpa using h))
theorem size_cells (g : Nat) : ∀ (vs : List Value) (o : Nat) (w : World), (w.setCells g o vs).heap.size = w.heap.size := by
  intro vs
  induction vs with
  | nil => intro o w; rfl
  | cons v vs ih => intro o w; show ((w.setCell ⟨g, o, none⟩ v).setCells g (o + 1) vs).heap.size = _; rw [ih]; simp [World.setCell]
theorem below_cells {B g : Nat} {a : World} : ∀ {w : World} (h : Below B a w) (hg : B ≤ g) (vs : List Value) (o : Nat), Below B a (w.setCells g o vs) := by
  intro w h hg vs
  induction vs generalizing w with
  | nil => intro o; exact h
  | cons v vs ih => intro o; exact ih (h.setCell (p := ⟨g, o, none⟩) hg v) (o + 1)
theorem ad2 {a b : Nat} (h : a = b) {w : World} {g : Nat} {v : Option Value} (k : w.cell? ⟨g, a, none⟩ = v) : w.cell? ⟨g, b, none⟩ = v := h ▸ k
set_option maxHeartbeats 12800000 in
set_option maxRecDepth 100000 in
theorem xCompact_any (B g o cap n : Nat) (D : Array Mom) (hn : D.size = n) (w : World) (hR : RowM w g o D) (hB : B ≤ g) (hs : n ≤ 1000000) (hcap : n ≤ cap) (h2 : 2 ≤ n) :
    Calls Tryz.prog 70 #[.slice (some ⟨g, o, none⟩) n cap, .func (.func 71) #[] #[]] w fun e w' => (∃ m, e = .returned (.slice (some ⟨g, o, none⟩) m cap) ∧ m = (onceL D n).length ∧ Rd w' (some ⟨g, o, none⟩) (momVs (onceL D n))) ∧ Below B w w' := by
  have HM := Lib.hid (fun x1 x2 y1 y2 w => xMeets_any x1 x2 y1 y2 w)
  have HR := Lib.hid hR
  have hgz := hR.lt
  have d2 : decide ((n : Int) < 2) = false := decide_eq_false (by omega)
  have HN := Lib.hid hn
  clear hR hn
  go_enter Tryz.func70, Tryz.ntmps70
  go_wp2
  go_loopw [5] (fun kv wr => ∃ j : Nat, j + 1 ≤ n ∧ kv = .int .i64 ((j : Int) + 1) ∧ Hid (Below w.heap.size w wr) ∧ Hid (∀ q, q < j + 1 → kpM D q = true)) (fun kv _ => n - (intOf kv).toNat)
  case atStart => exact ⟨0, by omega, rfl, Lib.hid (Below.refl _ _), Lib.hid (fun q hq => decide_eq_true (Or.inl (by omega)))⟩
  case round =>
    obtain ⟨j, hj, rfl, hBw, hall⟩ := hrel
    obtain ⟨V20, rfl⟩ : ∃ V, V = wr := ⟨_, rfl⟩
    have hgz2 : g < V20.heap.size := Nat.lt_of_lt_of_le hgz hBw.out.size
    by_cases hlt : j + 1 < n
    · have r := HR.out.below hBw.out hgz
      have e0 := r.c0 (j + 1) (by rw [HN.out]; exact hlt)
      have e1 := r.c1 (j + 1) (by rw [HN.out]; exact hlt)
      have e2 := r.c0 j (by rw [HN.out]; omega)
      have e3 := r.c1 j (by rw [HN.out]; omega)
      have hk1 := kpM_yes (D := D) (j := j)
      have hk0 := kpM_no (D := D) (j := j)
      replace r := Lib.hid r
      generalize D[j + 1]! = a at *
      generalize D[j]! = b at *
      obtain ⟨a1, a2⟩ := a
      obtain ⟨b1, b2⟩ := b
      simp only at e0 e1 e2 e3 hk1 hk0
      have d3 : decide ((j : Int) + 1 < (n : Int)) = true := decide_eq_true (by omega)
      have d3b : (j : Int) + 1 < (n : Int) := by omega
      have d3c : ((j : Int) + 1).toNat = j + 1 := by omega
      have d3d : (j : Int) < (n : Int) := by omega
      have hw1 : IntKind.i64.wrap ((j : Int) + 1 + 1) = (j : Int) + 1 + 1 := w64 (by omega) (by omega)
      have hw2 : IntKind.i64.wrap (j : Int) = (j : Int) := w64 (by omega) (by omega)
      have ib1 : (0 : Int) ≤ (j : Int) + 1 ∧ (j : Int) + 1 < (n : Int) := by omega
      have H := Lib.hid (HM.out a1 a2 b1 b2)
      have B20 := Lib.hid (Below.refl V20.heap.size V20)
      
      
      by_cases hq : a1 = b1
      · have q : (a1 == b1) = true := beq_iff_eq.2 hq
        have hk := Lib.hid (hk0 hq)
        rw [q] at H
        replace hq := Lib.hid hq
        clear hk0 hk1
        
        go_wp2_with fail
        obtain ⟨W0, hW0⟩ : ∃ W0, W0 = V20 := ⟨_, rfl⟩
        have xc0 : W0.cell? ⟨g, o + (j + 1) * 2, none⟩ = some (.int .i64 a1) := by (rw [hW0]; first | assumption | (simp; assumption))
        have xc1 : W0.cell? ⟨g, o + (j + 1) * 2 + 1, none⟩ = some (.int .i64 a2) := by (rw [hW0]; first | assumption | (simp; assumption))
        have xc2 : W0.cell? ⟨g, o + j * 2, none⟩ = some (.int .i64 b1) := by (rw [hW0]; first | assumption | (simp; assumption))
        have xc3 : W0.cell? ⟨g, o + j * 2 + 1, none⟩ = some (.int .i64 b2) := by (rw [hW0]; first | assumption | (simp; assumption))
        have HB0 := Lib.hid (below_by hW0 (B20.out))
        have zXC : g < W0.heap.size := by first | (have := HB0.out.size; omega) | (rw [hW0]; omega) | (rw [hW0]; simp; omega)
        have zW0 := HB0.out.size
        have HW0 := Lib.hid hW0
        clear hW0
        try go_simp
        rw [← HW0.out]
        refine region_plan (S := fun w2 => w2.cell? ⟨g, o + (j + 1) * 2, none⟩ = some (.int .i64 a1) ∧ w2.cell? ⟨g, o + (j + 1) * 2 + 1, none⟩ = some (.int .i64 a2) ∧ w2.cell? ⟨g, o + j * 2, none⟩ = some (.int .i64 b1) ∧ w2.cell? ⟨g, o + j * 2 + 1, none⟩ = some (.int .i64 b2)) [(0, true), (1, true), (2, true), (3, true), (4, true), (5, true), (6, true), (7, true), (8, true), (9, true), (10, false)] (by as_aux_lemma => kernel_rfl) (by as_aux_lemma => kernel_rfl) (by as_aux_lemma => kernel_rfl) (by as_aux_lemma => kernel_rfl) ⟨(by rw [World.cell?_drew]; exact xc0), (by rw [World.cell?_drew]; exact xc1), (by rw [World.cell?_drew]; exact xc2), (by rw [World.cell?_drew]; exact xc3)⟩ ?_
        have Y0 := Lib.hid (Below.refl W0.heap.size W0).drew
        refine plan_yes (v := ?v1_1) (by simp only [List.getElem?_toArray, List.getElem?_cons_zero, List.getElem?_cons_succ]; exact rfl) (Or.inl ⟨by as_aux_lemma => rfl, ?hy1_1⟩) ?rest1_1
        case hy1_1 => (intro w2 hSw; (try dsimp only at hSw); obtain ⟨s0, s1, s2, s3⟩ := hSw; go_simp; try with_reducible rfl)
        try simp only [Act.put, List.setIfInBounds_toArray, List.set_cons_zero, List.set_cons_succ]
        refine plan_yes (v := ?v2_1) (by simp only [List.getElem?_toArray, List.getElem?_cons_zero, List.getElem?_cons_succ]; exact rfl) (Or.inl ⟨by as_aux_lemma => rfl, ?hy2_1⟩) ?rest2_1
        case hy2_1 => (intro w2 hSw; (try dsimp only at hSw); obtain ⟨s0, s1, s2, s3⟩ := hSw; go_simp; try with_reducible rfl)
        try simp only [Act.put, List.setIfInBounds_toArray, List.set_cons_zero, List.set_cons_succ]
        refine plan_yes (v := ?v3_1) (by simp only [List.getElem?_toArray, List.getElem?_cons_zero, List.getElem?_cons_succ]; exact rfl) (Or.inl ⟨by as_aux_lemma => rfl, ?hy3_1⟩) ?rest3_1
        case hy3_1 => (intro w2 hSw; (try dsimp only at hSw); obtain ⟨s0, s1, s2, s3⟩ := hSw; go_simp; try with_reducible rfl)
        try simp only [Act.put, List.setIfInBounds_toArray, List.set_cons_zero, List.set_cons_succ]
        refine plan_yes (v := ?v4_1) (by simp only [List.getElem?_toArray, List.getElem?_cons_zero, List.getElem?_cons_succ]; exact rfl) (Or.inl ⟨by as_aux_lemma => rfl, ?hy4_1⟩) ?rest4_1
        case hy4_1 => (intro w2 hSw; (try dsimp only at hSw); obtain ⟨s0, s1, s2, s3⟩ := hSw; go_simp; try with_reducible rfl)
        try simp only [Act.put, List.setIfInBounds_toArray, List.set_cons_zero, List.set_cons_succ]
        refine plan_yes (v := ?v5_1) (by simp only [List.getElem?_toArray, List.getElem?_cons_zero, List.getElem?_cons_succ]; exact rfl) (Or.inl ⟨by as_aux_lemma => rfl, ?hy5_1⟩) ?rest5_1
        case hy5_1 => (intro w2 hSw; (try dsimp only at hSw); obtain ⟨s0, s1, s2, s3⟩ := hSw; go_simp; try with_reducible rfl)
        try simp only [Act.put, List.setIfInBounds_toArray, List.set_cons_zero, List.set_cons_succ]
        refine plan_yes (v := ?v6_1) (by simp only [List.getElem?_toArray, List.getElem?_cons_zero, List.getElem?_cons_succ]; exact rfl) (Or.inl ⟨by as_aux_lemma => rfl, ?hy6_1⟩) ?rest6_1
        case hy6_1 => (intro w2 hSw; (try dsimp only at hSw); obtain ⟨s0, s1, s2, s3⟩ := hSw; go_simp; try with_reducible rfl)
        try simp only [Act.put, List.setIfInBounds_toArray, List.set_cons_zero, List.set_cons_succ]
        refine plan_yes (v := ?v7_1) (by simp only [List.getElem?_toArray, List.getElem?_cons_zero, List.getElem?_cons_succ]; exact rfl) (Or.inl ⟨by as_aux_lemma => rfl, ?hy7_1⟩) ?rest7_1
        case hy7_1 => (intro w2 hSw; (try dsimp only at hSw); obtain ⟨s0, s1, s2, s3⟩ := hSw; go_simp; try with_reducible rfl)
        try simp only [Act.put, List.setIfInBounds_toArray, List.set_cons_zero, List.set_cons_succ]
        refine plan_yes (v := ?v8_1) (by simp only [List.getElem?_toArray, List.getElem?_cons_zero, List.getElem?_cons_succ]; exact rfl) (Or.inl ⟨by as_aux_lemma => rfl, ?hy8_1⟩) ?rest8_1
        case hy8_1 => (intro w2 hSw; (try dsimp only at hSw); obtain ⟨s0, s1, s2, s3⟩ := hSw; go_simp; try with_reducible rfl)
        try simp only [Act.put, List.setIfInBounds_toArray, List.set_cons_zero, List.set_cons_succ]
        refine plan_yes (v := ?v9_1) (by simp only [List.getElem?_toArray, List.getElem?_cons_zero, List.getElem?_cons_succ]; exact rfl) (Or.inl ⟨by as_aux_lemma => rfl, ?hy9_1⟩) ?rest9_1
        case hy9_1 => (intro w2 hSw; (try dsimp only at hSw); obtain ⟨s0, s1, s2, s3⟩ := hSw; go_simp; try with_reducible rfl)
        try simp only [Act.put, List.setIfInBounds_toArray, List.set_cons_zero, List.set_cons_succ]
        refine plan_yes (v := ?v10_1) (by simp only [List.getElem?_toArray, List.getElem?_cons_zero, List.getElem?_cons_succ]; exact rfl) (Or.inl ⟨by as_aux_lemma => rfl, ?hy10_1⟩) ?rest10_1
        case hy10_1 => (intro w2 hSw; (try dsimp only at hSw); obtain ⟨s0, s1, s2, s3⟩ := hSw; go_simp; try with_reducible rfl)
        try simp only [Act.put, List.setIfInBounds_toArray, List.set_cons_zero, List.set_cons_succ]
        refine plan_calls (by simp only [List.getElem?_toArray, List.getElem?_cons_zero, List.getElem?_cons_succ]; exact rfl) (by as_aux_lemma => rfl) (fun K hK => ?_)
        go_simp
        refine (H.out _).mono ?_
        rintro e Y1w ⟨rfl, hb1⟩
        have Y1 := Lib.hid (keepS (W0 := W0) Y0.out hb1)
        clear hb1
        refine hK.out _ _ ⟨((Y1.out.cell (p := ⟨g, o + (j + 1) * 2, none⟩) zXC).trans xc0), ((Y1.out.cell (p := ⟨g, o + (j + 1) * 2 + 1, none⟩) zXC).trans xc1), ((Y1.out.cell (p := ⟨g, o + j * 2, none⟩) zXC).trans xc2), ((Y1.out.cell (p := ⟨g, o + j * 2 + 1, none⟩) zXC).trans xc3)⟩ ?_
        clear hK K
        try simp only [Act.put, List.setIfInBounds_toArray, List.set_cons_zero, List.set_cons_succ]
        as_aux_lemma =>
         refine plan_done (NoPanic.normal ?_)
         have B0 := Y1.out
         have BW := Lib.hid (HB0.out.trans (B0.mono zW0))
         have B21 := BW
         clear BW B0  Y0 Y1
         obtain ⟨V21, rfl⟩ : ∃ V, V = Y1w := ⟨_, rfl⟩
         try go_simp
         have hst : Hid (Go.Lib.KeptInv (kpM D) D (j + 1 + 0 + 1) (j + 1) D) := Lib.hid (Go.Lib.KeptInv.start hall.out hk.out)
         have hR1 : Hid (RowM V21 g o D) := Lib.hid ((HR.out.below hBw.out hgz).below B21.out hgz2)
         have hB1 : Hid (Below B w V21) := Lib.hid ((hBw.out.trans (B21.out.mono hBw.out.size)).mono (by omega))
         clear HR hBw H e0 e1 e2 e3 hk hq q d3 d3b d3c d3d hw1 hw2 ib1 hall r B21 B20 hgz2
         go_wp2
         obtain ⟨n2, hn2⟩ : ∃ n2, n - (j + 1) = n2 := ⟨_, rfl⟩
         obtain ⟨c2, hc2⟩ : ∃ c2, cap - (j + 1) = c2 := ⟨_, rfl⟩
         rw [hn2, hc2]
         have hn2a : n ≤ j + 1 + n2 := by omega
         have hn2b : j + 1 + n2 ≤ n := by omega
         replace hn2 := Lib.hid hn2
         replace hc2 := Lib.hid hc2
         go_loopw [5, 7] (fun kv k2v wr => ∃ (kk i : Nat) (dk : Array Mom), kv = .int .i64 (kk : Int) ∧ k2v = .int .i64 ((i : Int) + 1) ∧ j + 1 + i + 1 ≤ n ∧ Hid (RowM wr g o dk) ∧ Hid (Below B w wr) ∧ Hid (Go.Lib.KeptInv (kpM D) D (j + 1 + i + 1) kk dk)) (fun _ k2v _ => n - (intOf k2v).toNat)
         case atStart => exact ⟨j + 1, 0, D, by go_num, rfl, by omega, hR1, hB1, hst⟩
         case round =>
           obtain ⟨kk, i, dk, rfl, rfl, hi, hRk, hBk, hK⟩ := hrel
           obtain ⟨V20, rfl⟩ : ∃ V, V = wr := ⟨_, rfl⟩
           clear hR1 hB1 hst
           have hds := hK.out.size
           rw [HN.out] at hds
           have hkl := hK.out.lt
           have hgz2 := hRk.out.lt
           by_cases hl2 : j + 1 + i + 1 < n
           · have r := hRk.out
             have e0 := ad2 (show o + (j + 1 + i + 1) * 2 = o + (j + 1) * 2 + (i + 1) * 2 by omega) (r.c0 (j + 1 + i + 1) (by omega))
             have e1 := ad2 (show o + (j + 1 + i + 1) * 2 + 1 = o + (j + 1) * 2 + (i + 1) * 2 + 1 by omega) (r.c1 (j + 1 + i + 1) (by omega))
             have e2 := ad2 (show o + (j + 1 + i) * 2 = o + (j + 1) * 2 + i * 2 by omega) (r.c0 (j + 1 + i) (by omega))
             have e3 := ad2 (show o + (j + 1 + i) * 2 + 1 = o + (j + 1) * 2 + i * 2 + 1 by omega) (r.c1 (j + 1 + i) (by omega))
             rw [hK.out.high (j + 1 + i + 1) (by omega)] at e0 e1
             rw [hK.out.high (j + 1 + i) (by omega)] at e2 e3
             have hk1 := kpM_yes (D := D) (j := j + 1 + i)
             have hk0 := kpM_no (D := D) (j := j + 1 + i)
             have hkeep := fun h => Go.Lib.KeptInv.keep hK.out (by rw [HN.out]; exact hl2) h
             have hskip := fun h => Go.Lib.KeptInv.skip hK.out h
             clear r
             generalize D[j + 1 + i + 1]! = a at *
             generalize D[j + 1 + i]! = b at *
             obtain ⟨a1, a2⟩ := a
             obtain ⟨b1, b2⟩ := b
             simp only at e0 e1 e2 e3 hk1 hk0
             have d3 : decide ((i : Int) + 1 < (n2 : Int)) = true := decide_eq_true (by omega)
             have d3b : (i : Int) + 1 < (n2 : Int) := by omega
             have d3c : ((i : Int) + 1).toNat = i + 1 := by omega
             have d3d : (i : Int) < (n2 : Int) := by omega
             have hw1 : IntKind.i64.wrap ((i : Int) + 1 + 1) = (i : Int) + 1 + 1 := w64 (by omega) (by omega)
             have hw2 : IntKind.i64.wrap (i : Int) = (i : Int) := w64 (by omega) (by omega)
             have hw3 : IntKind.i64.wrap ((kk : Int) + 1) = (kk : Int) + 1 := w64 (by omega) (by omega)
             have ib1 : (0 : Int) ≤ (i : Int) + 1 ∧ (i : Int) + 1 < (n2 : Int) := by omega
             have H := Lib.hid (HM.out a1 a2 b1 b2)
             have B20 := Lib.hid (Below.refl V20.heap.size V20)
             
             
             by_cases hq : a1 = b1
             · have q : (a1 == b1) = true := beq_iff_eq.2 hq
               have hk := Lib.hid (hskip (hk0 hq))
               rw [q] at H
               replace hq := Lib.hid hq
               clear hk0 hk1 hkeep hskip
               
               go_wp2_with fail
               obtain ⟨W0, hW0⟩ : ∃ W0, W0 = V20 := ⟨_, rfl⟩
               have xc0 : W0.cell? ⟨g, o + (j + 1) * 2 + (i + 1) * 2, none⟩ = some (.int .i64 a1) := by (rw [hW0]; first | assumption | (simp; assumption))
               have xc1 : W0.cell? ⟨g, o + (j + 1) * 2 + (i + 1) * 2 + 1, none⟩ = some (.int .i64 a2) := by (rw [hW0]; first | assumption | (simp; assumption))
               have xc2 : W0.cell? ⟨g, o + (j + 1) * 2 + i * 2, none⟩ = some (.int .i64 b1) := by (rw [hW0]; first | assumption | (simp; assumption))
               have xc3 : W0.cell? ⟨g, o + (j + 1) * 2 + i * 2 + 1, none⟩ = some (.int .i64 b2) := by (rw [hW0]; first | assumption | (simp; assumption))
               have HB0 := Lib.hid (below_by hW0 (B20.out))
               have zXC : g < W0.heap.size := by first | (have := HB0.out.size; omega) | (rw [hW0]; omega) | (rw [hW0]; simp; omega)
               have zW0 := HB0.out.size
               have HW0 := Lib.hid hW0
               clear hW0
               try go_simp
               rw [← HW0.out]
               refine region_plan (S := fun w2 => w2.cell? ⟨g, o + (j + 1) * 2 + (i + 1) * 2, none⟩ = some (.int .i64 a1) ∧ w2.cell? ⟨g, o + (j + 1) * 2 + (i + 1) * 2 + 1, none⟩ = some (.int .i64 a2) ∧ w2.cell? ⟨g, o + (j + 1) * 2 + i * 2, none⟩ = some (.int .i64 b1) ∧ w2.cell? ⟨g, o + (j + 1) * 2 + i * 2 + 1, none⟩ = some (.int .i64 b2)) [(0, true), (1, true), (2, true), (3, true), (4, true), (5, true), (6, true), (7, true), (8, true), (9, true), (10, false), (11, true)] (by as_aux_lemma => kernel_rfl) (by as_aux_lemma => kernel_rfl) (by as_aux_lemma => kernel_rfl) (by as_aux_lemma => kernel_rfl) ⟨(by rw [World.cell?_drew]; exact xc0), (by rw [World.cell?_drew]; exact xc1), (by rw [World.cell?_drew]; exact xc2), (by rw [World.cell?_drew]; exact xc3)⟩ ?_
               have Y0 := Lib.hid (Below.refl W0.heap.size W0).drew
               refine plan_yes (v := ?v1_2) (by simp only [List.getElem?_toArray, List.getElem?_cons_zero, List.getElem?_cons_succ]; exact rfl) (Or.inl ⟨by as_aux_lemma => rfl, ?hy1_2⟩) ?rest1_2
               case hy1_2 => (intro w2 hSw; (try dsimp only at hSw); obtain ⟨s0, s1, s2, s3⟩ := hSw; go_simp; try with_reducible rfl)
               try simp only [Act.put, List.setIfInBounds_toArray, List.set_cons_zero, List.set_cons_succ]
               refine plan_yes (v := ?v2_2) (by simp only [List.getElem?_toArray, List.getElem?_cons_zero, List.getElem?_cons_succ]; exact rfl) (Or.inl ⟨by as_aux_lemma => rfl, ?hy2_2⟩) ?rest2_2
               case hy2_2 => (intro w2 hSw; (try dsimp only at hSw); obtain ⟨s0, s1, s2, s3⟩ := hSw; go_simp; try with_reducible rfl)
               try simp only [Act.put, List.setIfInBounds_toArray, List.set_cons_zero, List.set_cons_succ]
               refine plan_yes (v := ?v3_2) (by simp only [List.getElem?_toArray, List.getElem?_cons_zero, List.getElem?_cons_succ]; exact rfl) (Or.inl ⟨by as_aux_lemma => rfl, ?hy3_2⟩) ?rest3_2
               case hy3_2 => (intro w2 hSw; (try dsimp only at hSw); obtain ⟨s0, s1, s2, s3⟩ := hSw; go_simp; try with_reducible rfl)
               try simp only [Act.put, List.setIfInBounds_toArray, List.set_cons_zero, List.set_cons_succ]
               refine plan_yes (v := ?v4_2) (by simp only [List.getElem?_toArray, List.getElem?_cons_zero, List.getElem?_cons_succ]; exact rfl) (Or.inl ⟨by as_aux_lemma => rfl, ?hy4_2⟩) ?rest4_2
               case hy4_2 => (intro w2 hSw; (try dsimp only at hSw); obtain ⟨s0, s1, s2, s3⟩ := hSw; go_simp; try with_reducible rfl)
               try simp only [Act.put, List.setIfInBounds_toArray, List.set_cons_zero, List.set_cons_succ]
               refine plan_yes (v := ?v5_2) (by simp only [List.getElem?_toArray, List.getElem?_cons_zero, List.getElem?_cons_succ]; exact rfl) (Or.inl ⟨by as_aux_lemma => rfl, ?hy5_2⟩) ?rest5_2
               case hy5_2 => (intro w2 hSw; (try dsimp only at hSw); obtain ⟨s0, s1, s2, s3⟩ := hSw; go_simp; try with_reducible rfl)
               try simp only [Act.put, List.setIfInBounds_toArray, List.set_cons_zero, List.set_cons_succ]
               refine plan_yes (v := ?v6_2) (by simp only [List.getElem?_toArray, List.getElem?_cons_zero, List.getElem?_cons_succ]; exact rfl) (Or.inl ⟨by as_aux_lemma => rfl, ?hy6_2⟩) ?rest6_2
               case hy6_2 => (intro w2 hSw; (try dsimp only at hSw); obtain ⟨s0, s1, s2, s3⟩ := hSw; go_simp; try with_reducible rfl)
               try simp only [Act.put, List.setIfInBounds_toArray, List.set_cons_zero, List.set_cons_succ]
               refine plan_yes (v := ?v7_2) (by simp only [List.getElem?_toArray, List.getElem?_cons_zero, List.getElem?_cons_succ]; exact rfl) (Or.inl ⟨by as_aux_lemma => rfl, ?hy7_2⟩) ?rest7_2
               case hy7_2 => (intro w2 hSw; (try dsimp only at hSw); obtain ⟨s0, s1, s2, s3⟩ := hSw; go_simp; try with_reducible rfl)
               try simp only [Act.put, List.setIfInBounds_toArray, List.set_cons_zero, List.set_cons_succ]
               refine plan_yes (v := ?v8_2) (by simp only [List.getElem?_toArray, List.getElem?_cons_zero, List.getElem?_cons_succ]; exact rfl) (Or.inl ⟨by as_aux_lemma => rfl, ?hy8_2⟩) ?rest8_2
               case hy8_2 => (intro w2 hSw; (try dsimp only at hSw); obtain ⟨s0, s1, s2, s3⟩ := hSw; go_simp; try with_reducible rfl)
               try simp only [Act.put, List.setIfInBounds_toArray, List.set_cons_zero, List.set_cons_succ]
               refine plan_yes (v := ?v9_2) (by simp only [List.getElem?_toArray, List.getElem?_cons_zero, List.getElem?_cons_succ]; exact rfl) (Or.inl ⟨by as_aux_lemma => rfl, ?hy9_2⟩) ?rest9_2
               case hy9_2 => (intro w2 hSw; (try dsimp only at hSw); obtain ⟨s0, s1, s2, s3⟩ := hSw; go_simp; try with_reducible rfl)
               try simp only [Act.put, List.setIfInBounds_toArray, List.set_cons_zero, List.set_cons_succ]
               refine plan_yes (v := ?v10_2) (by simp only [List.getElem?_toArray, List.getElem?_cons_zero, List.getElem?_cons_succ]; exact rfl) (Or.inl ⟨by as_aux_lemma => rfl, ?hy10_2⟩) ?rest10_2
               case hy10_2 => (intro w2 hSw; (try dsimp only at hSw); obtain ⟨s0, s1, s2, s3⟩ := hSw; go_simp; try with_reducible rfl)
               try simp only [Act.put, List.setIfInBounds_toArray, List.set_cons_zero, List.set_cons_succ]
               refine plan_calls (by simp only [List.getElem?_toArray, List.getElem?_cons_zero, List.getElem?_cons_succ]; exact rfl) (by as_aux_lemma => rfl) (fun K hK => ?_)
               go_simp
               refine (H.out _).mono ?_
               rintro e Y1w ⟨rfl, hb1⟩
               have Y1 := Lib.hid (keepS (W0 := W0) Y0.out hb1)
               clear hb1
               refine hK.out _ _ ⟨((Y1.out.cell (p := ⟨g, o + (j + 1) * 2 + (i + 1) * 2, none⟩) zXC).trans xc0), ((Y1.out.cell (p := ⟨g, o + (j + 1) * 2 + (i + 1) * 2 + 1, none⟩) zXC).trans xc1), ((Y1.out.cell (p := ⟨g, o + (j + 1) * 2 + i * 2, none⟩) zXC).trans xc2), ((Y1.out.cell (p := ⟨g, o + (j + 1) * 2 + i * 2 + 1, none⟩) zXC).trans xc3)⟩ ?_
               clear hK K
               try simp only [Act.put, List.setIfInBounds_toArray, List.set_cons_zero, List.set_cons_succ]
               as_aux_lemma =>
                refine plan_yes (v := ?v11_2) (by simp only [List.getElem?_toArray, List.getElem?_cons_zero, List.getElem?_cons_succ]; exact rfl) (Or.inl ⟨by as_aux_lemma => rfl, ?hy11_2⟩) ?rest11_2
                case hy11_2 => (intro w2 hSw; (try dsimp only at hSw); obtain ⟨s0, s1, s2, s3⟩ := hSw; go_simp; try with_reducible rfl)
                try simp only [Act.put, List.setIfInBounds_toArray, List.set_cons_zero, List.set_cons_succ]
                refine plan_done (NoPanic.normal ?_)
                have B0 := Y1.out
                have BW := Lib.hid (HB0.out.trans (B0.mono zW0))
                have B21 := BW
                clear BW B0  Y0 Y1
                obtain ⟨V21, rfl⟩ : ∃ V, V = Y1w := ⟨_, rfl⟩
                try go_simp
                go_wp2
                go_roundw
                case rel => exact ⟨kk, i + 1, dk, rfl, by go_num, by omega, Lib.hid (hRk.out.below B21.out hgz2), Lib.hid (hBk.out.trans (B21.out.mono (by omega))), hk⟩
                case measure => simp [intOf]; omega
             · have q : (a1 == b1) = false := beq_false_of_ne hq
               have hk := Lib.hid (hkeep (hk1 hq))
               rw [q] at H
               replace hq := Lib.hid hq
               clear hk0 hk1 hkeep hskip
               
               go_wp2_with fail
               obtain ⟨W0, hW0⟩ : ∃ W0, W0 = V20 := ⟨_, rfl⟩
               have xc0 : W0.cell? ⟨g, o + (j + 1) * 2 + (i + 1) * 2, none⟩ = some (.int .i64 a1) := by (rw [hW0]; first | assumption | (simp; assumption))
               have xc1 : W0.cell? ⟨g, o + (j + 1) * 2 + (i + 1) * 2 + 1, none⟩ = some (.int .i64 a2) := by (rw [hW0]; first | assumption | (simp; assumption))
               have xc2 : W0.cell? ⟨g, o + (j + 1) * 2 + i * 2, none⟩ = some (.int .i64 b1) := by (rw [hW0]; first | assumption | (simp; assumption))
               have xc3 : W0.cell? ⟨g, o + (j + 1) * 2 + i * 2 + 1, none⟩ = some (.int .i64 b2) := by (rw [hW0]; first | assumption | (simp; assumption))
               have HB0 := Lib.hid (below_by hW0 (B20.out))
               have zXC : g < W0.heap.size := by first | (have := HB0.out.size; omega) | (rw [hW0]; omega) | (rw [hW0]; simp; omega)
               have zW0 := HB0.out.size
               have HW0 := Lib.hid hW0
               clear hW0
               try go_simp
               rw [← HW0.out]
               refine region_plan (S := fun w2 => w2.cell? ⟨g, o + (j + 1) * 2 + (i + 1) * 2, none⟩ = some (.int .i64 a1) ∧ w2.cell? ⟨g, o + (j + 1) * 2 + (i + 1) * 2 + 1, none⟩ = some (.int .i64 a2) ∧ w2.cell? ⟨g, o + (j + 1) * 2 + i * 2, none⟩ = some (.int .i64 b1) ∧ w2.cell? ⟨g, o + (j + 1) * 2 + i * 2 + 1, none⟩ = some (.int .i64 b2)) [(0, true), (1, true), (2, true), (3, true), (4, true), (5, true), (6, true), (7, true), (8, true), (9, true), (10, false), (11, true)] (by as_aux_lemma => kernel_rfl) (by as_aux_lemma => kernel_rfl) (by as_aux_lemma => kernel_rfl) (by as_aux_lemma => kernel_rfl) ⟨(by rw [World.cell?_drew]; exact xc0), (by rw [World.cell?_drew]; exact xc1), (by rw [World.cell?_drew]; exact xc2), (by rw [World.cell?_drew]; exact xc3)⟩ ?_
               have Y0 := Lib.hid (Below.refl W0.heap.size W0).drew
               refine plan_yes (v := ?v1_3) (by simp only [List.getElem?_toArray, List.getElem?_cons_zero, List.getElem?_cons_succ]; exact rfl) (Or.inl ⟨by as_aux_lemma => rfl, ?hy1_3⟩) ?rest1_3
               case hy1_3 => (intro w2 hSw; (try dsimp only at hSw); obtain ⟨s0, s1, s2, s3⟩ := hSw; go_simp; try with_reducible rfl)
               try simp only [Act.put, List.setIfInBounds_toArray, List.set_cons_zero, List.set_cons_succ]
               refine plan_yes (v := ?v2_3) (by simp only [List.getElem?_toArray, List.getElem?_cons_zero, List.getElem?_cons_succ]; exact rfl) (Or.inl ⟨by as_aux_lemma => rfl, ?hy2_3⟩) ?rest2_3
               case hy2_3 => (intro w2 hSw; (try dsimp only at hSw); obtain ⟨s0, s1, s2, s3⟩ := hSw; go_simp; try with_reducible rfl)
               try simp only [Act.put, List.setIfInBounds_toArray, List.set_cons_zero, List.set_cons_succ]
               refine plan_yes (v := ?v3_3) (by simp only [List.getElem?_toArray, List.getElem?_cons_zero, List.getElem?_cons_succ]; exact rfl) (Or.inl ⟨by as_aux_lemma => rfl, ?hy3_3⟩) ?rest3_3
               case hy3_3 => (intro w2 hSw; (try dsimp only at hSw); obtain ⟨s0, s1, s2, s3⟩ := hSw; go_simp; try with_reducible rfl)
               try simp only [Act.put, List.setIfInBounds_toArray, List.set_cons_zero, List.set_cons_succ]
               refine plan_yes (v := ?v4_3) (by simp only [List.getElem?_toArray, List.getElem?_cons_zero, List.getElem?_cons_succ]; exact rfl) (Or.inl ⟨by as_aux_lemma => rfl, ?hy4_3⟩) ?rest4_3
               case hy4_3 => (intro w2 hSw; (try dsimp only at hSw); obtain ⟨s0, s1, s2, s3⟩ := hSw; go_simp; try with_reducible rfl)
               try simp only [Act.put, List.setIfInBounds_toArray, List.set_cons_zero, List.set_cons_succ]
               refine plan_yes (v := ?v5_3) (by simp only [List.getElem?_toArray, List.getElem?_cons_zero, List.getElem?_cons_succ]; exact rfl) (Or.inl ⟨by as_aux_lemma => rfl, ?hy5_3⟩) ?rest5_3
               case hy5_3 => (intro w2 hSw; (try dsimp only at hSw); obtain ⟨s0, s1, s2, s3⟩ := hSw; go_simp; try with_reducible rfl)
               try simp only [Act.put, List.setIfInBounds_toArray, List.set_cons_zero, List.set_cons_succ]
               refine plan_yes (v := ?v6_3) (by simp only [List.getElem?_toArray, List.getElem?_cons_zero, List.getElem?_cons_succ]; exact rfl) (Or.inl ⟨by as_aux_lemma => rfl, ?hy6_3⟩) ?rest6_3
               case hy6_3 => (intro w2 hSw; (try dsimp only at hSw); obtain ⟨s0, s1, s2, s3⟩ := hSw; go_simp; try with_reducible rfl)
               try simp only [Act.put, List.setIfInBounds_toArray, List.set_cons_zero, List.set_cons_succ]
               refine plan_yes (v := ?v7_3) (by simp only [List.getElem?_toArray, List.getElem?_cons_zero, List.getElem?_cons_succ]; exact rfl) (Or.inl ⟨by as_aux_lemma => rfl, ?hy7_3⟩) ?rest7_3
               case hy7_3 => (intro w2 hSw; (try dsimp only at hSw); obtain ⟨s0, s1, s2, s3⟩ := hSw; go_simp; try with_reducible rfl)
               try simp only [Act.put, List.setIfInBounds_toArray, List.set_cons_zero, List.set_cons_succ]
               refine plan_yes (v := ?v8_3) (by simp only [List.getElem?_toArray, List.getElem?_cons_zero, List.getElem?_cons_succ]; exact rfl) (Or.inl ⟨by as_aux_lemma => rfl, ?hy8_3⟩) ?rest8_3
               case hy8_3 => (intro w2 hSw; (try dsimp only at hSw); obtain ⟨s0, s1, s2, s3⟩ := hSw; go_simp; try with_reducible rfl)
               try simp only [Act.put, List.setIfInBounds_toArray, List.set_cons_zero, List.set_cons_succ]
               refine plan_yes (v := ?v9_3) (by simp only [List.getElem?_toArray, List.getElem?_cons_zero, List.getElem?_cons_succ]; exact rfl) (Or.inl ⟨by as_aux_lemma => rfl, ?hy9_3⟩) ?rest9_3
               case hy9_3 => (intro w2 hSw; (try dsimp only at hSw); obtain ⟨s0, s1, s2, s3⟩ := hSw; go_simp; try with_reducible rfl)
               try simp only [Act.put, List.setIfInBounds_toArray, List.set_cons_zero, List.set_cons_succ]
               refine plan_yes (v := ?v10_3) (by simp only [List.getElem?_toArray, List.getElem?_cons_zero, List.getElem?_cons_succ]; exact rfl) (Or.inl ⟨by as_aux_lemma => rfl, ?hy10_3⟩) ?rest10_3
               case hy10_3 => (intro w2 hSw; (try dsimp only at hSw); obtain ⟨s0, s1, s2, s3⟩ := hSw; go_simp; try with_reducible rfl)
               try simp only [Act.put, List.setIfInBounds_toArray, List.set_cons_zero, List.set_cons_succ]
               refine plan_calls (by simp only [List.getElem?_toArray, List.getElem?_cons_zero, List.getElem?_cons_succ]; exact rfl) (by as_aux_lemma => rfl) (fun K hK => ?_)
               go_simp
               refine (H.out _).mono ?_
               rintro e Y1w ⟨rfl, hb1⟩
               have Y1 := Lib.hid (keepS (W0 := W0) Y0.out hb1)
               clear hb1
               refine hK.out _ _ ⟨((Y1.out.cell (p := ⟨g, o + (j + 1) * 2 + (i + 1) * 2, none⟩) zXC).trans xc0), ((Y1.out.cell (p := ⟨g, o + (j + 1) * 2 + (i + 1) * 2 + 1, none⟩) zXC).trans xc1), ((Y1.out.cell (p := ⟨g, o + (j + 1) * 2 + i * 2, none⟩) zXC).trans xc2), ((Y1.out.cell (p := ⟨g, o + (j + 1) * 2 + i * 2 + 1, none⟩) zXC).trans xc3)⟩ ?_
               clear hK K
               try simp only [Act.put, List.setIfInBounds_toArray, List.set_cons_zero, List.set_cons_succ]
               as_aux_lemma =>
                refine plan_yes (v := ?v11_3) (by simp only [List.getElem?_toArray, List.getElem?_cons_zero, List.getElem?_cons_succ]; exact rfl) (Or.inl ⟨by as_aux_lemma => rfl, ?hy11_3⟩) ?rest11_3
                case hy11_3 => (intro w2 hSw; (try dsimp only at hSw); obtain ⟨s0, s1, s2, s3⟩ := hSw; go_simp; try with_reducible rfl)
                try simp only [Act.put, List.setIfInBounds_toArray, List.set_cons_zero, List.set_cons_succ]
                refine plan_done (NoPanic.normal ?_)
                have B0 := Y1.out
                have BW := Lib.hid (HB0.out.trans (B0.mono zW0))
                have B21 := BW
                clear BW B0  Y0 Y1
                obtain ⟨V21, rfl⟩ : ∃ V, V = Y1w := ⟨_, rfl⟩
                try go_simp
                have r1 := hRk.out.below B21.out hgz2
                have hb1 := Lib.hid (hBk.out.trans (B21.out.mono (show B ≤ V20.heap.size by omega)))
                have k0 : V21.cell? ⟨g, o + (j + 1) * 2 + (i + 1) * 2, none⟩ = some (.int .i64 a1) := (B21.out.cell (p := ⟨g, o + (j + 1) * 2 + (i + 1) * 2, none⟩) hgz2).trans e0
                have k1 : V21.cell? ⟨g, o + (j + 1) * 2 + (i + 1) * 2 + 1, none⟩ = some (.int .i64 a2) := (B21.out.cell (p := ⟨g, o + (j + 1) * 2 + (i + 1) * 2 + 1, none⟩) hgz2).trans e1
                have hkn : kk < dk.size := by omega
                have k2 := r1.c0 kk hkn
                have k3 := r1.c1 kk hkn
                have z2 := r1.f0 kk hkn
                have z3 := r1.f1 kk hkn
                have hset := Lib.hid (r1.set hkn (a1, a2))
                have hbs := Lib.hid ((hb1.out.setCell (p := ⟨g, o + kk * 2, none⟩) hB (.int .i64 a1)).setCell (p := ⟨g, o + kk * 2 + 1, none⟩) hB (.int .i64 a2))
                have d4 : (kk : Int) < (n : Int) := by omega
                generalize dk[kk]! = old at k2 k3
                obtain ⟨o1, o2⟩ := old
                simp only at k2 k3 hset
                clear r1 hkn e0 e1 e2 e3
                go_wp2
                go_roundw
                case rel => exact ⟨kk + 1, i + 1, dk.setIfInBounds kk (a1, a2), by go_num, by go_num, by omega, hset, hbs, hk⟩
                case measure => simp [intOf]; omega
           · have hend : j + 1 + i + 1 = n := by omega
             have d3 : decide ((i : Int) + 1 < (n2 : Int)) = false := decide_eq_false (by omega)
             have d3b : ¬ ((i : Int) + 1 < (n2 : Int)) := by omega
             have hkn : kk < n := by omega
             replace hend := Lib.hid hend
             have hcx : ∀ ty, ∃ zs : List Value, zs.length = (n - kk) * 2 ∧ (Builtin.clear_ #[88] ty #[.slice (some ⟨g, o + kk * 2, none⟩) (n - kk) (cap - kk)]).run Tryz.prog V20 = .ok (.tuple #[]) (V20.setCells g (o + kk * 2) zs) := fun ty => by
               refine run_clearM V20 ty g (o + kk * 2) (n - kk) (cap - kk) (by omega) (fun q hq => ?_) (fun q hq => ?_)
               · have h0 := hRk.out.c0 (kk + q / 2) (by omega)
                 have h1 := hRk.out.c1 (kk + q / 2) (by omega)
                 rcases Nat.mod_two_eq_zero_or_one q with e | e
                 · rw [show o + kk * 2 + q = o + (kk + q / 2) * 2 by omega, h0]; rfl
                 · rw [show o + kk * 2 + q = o + (kk + q / 2) * 2 + 1 by omega, h1]; rfl
               · have h0 := hRk.out.f0 (kk + q / 2) (by omega)
                 have h1 := hRk.out.f1 (kk + q / 2) (by omega)
                 rcases Nat.mod_two_eq_zero_or_one q with e | e
                 · rw [show o + kk * 2 + q = o + (kk + q / 2) * 2 by omega, h0]
                 · rw [show o + kk * 2 + q = o + (kk + q / 2) * 2 + 1 by omega, h1]
             have hlen := hK.out.len
             have hlow := hK.out.low
             rw [hend.out, show kpM D = (fun j => decide (j = 0 ∨ D[j]!.1 ≠ D[j - 1]!.1)) from rfl, kept_once] at hlen hlow
             have hrd : ∀ (zs : List Value), Hid (kk = (onceL D n).length ∧ Rd (V20.setCells g (o + kk * 2) zs) (some ⟨g, o, none⟩) (momVs (onceL D n)) ∧ Below B w (V20.setCells g (o + kk * 2) zs)) := fun zs => Lib.hid (by
               refine ⟨hlen.symm, RowM.rd (D := D) ?_ (fun q hq => ?_), below_cells hBk.out hB zs (o + kk * 2)⟩
               · have : (V20.setCells g (o + kk * 2) zs).heap.size = V20.heap.size := size_cells g zs (o + kk * 2) V20
                 omega
               · rw [hlen] at hq
                 have h1 := hlow q hq
                 have h2 : (onceL D n)[q]! = dk[q]! := by
                   rw [getElem!_pos (onceL D n) q (by omega)]
                   rw [List.getElem?_eq_getElem (by omega)] at h1
                   exact Option.some.inj h1
                 rw [h2, World.cell?_setCells_out g zs _ _ _ (fun _ _ => Or.inl (show o + q * 2 < o + kk * 2 by omega)), World.cell?_setCells_out g zs _ _ _ (fun _ _ => Or.inl (show o + q * 2 + 1 < o + kk * 2 by omega))]
                 exact ⟨hRk.out.c0 q (by omega), hRk.out.c1 q (by omega)⟩)
             obtain ⟨zs, hzl, hcl⟩ := hcx 0
             clear hlen hlow hcx
             go_wp2
             go_ret
             exact ⟨⟨kk, rfl, (hrd zs).out.1, (hrd zs).out.2.1⟩, (hrd zs).out.2.2⟩
      · have q : (a1 == b1) = false := beq_false_of_ne hq
        have hk := Lib.hid (hk1 hq)
        rw [q] at H
        replace hq := Lib.hid hq
        clear hk0 hk1
        
        go_wp2_with fail
        obtain ⟨W0, hW0⟩ : ∃ W0, W0 = V20 := ⟨_, rfl⟩
        have xc0 : W0.cell? ⟨g, o + (j + 1) * 2, none⟩ = some (.int .i64 a1) := by (rw [hW0]; first | assumption | (simp; assumption))
        have xc1 : W0.cell? ⟨g, o + (j + 1) * 2 + 1, none⟩ = some (.int .i64 a2) := by (rw [hW0]; first | assumption | (simp; assumption))
        have xc2 : W0.cell? ⟨g, o + j * 2, none⟩ = some (.int .i64 b1) := by (rw [hW0]; first | assumption | (simp; assumption))
        have xc3 : W0.cell? ⟨g, o + j * 2 + 1, none⟩ = some (.int .i64 b2) := by (rw [hW0]; first | assumption | (simp; assumption))
        have HB0 := Lib.hid (below_by hW0 (B20.out))
        have zXC : g < W0.heap.size := by first | (have := HB0.out.size; omega) | (rw [hW0]; omega) | (rw [hW0]; simp; omega)
        have zW0 := HB0.out.size
        have HW0 := Lib.hid hW0
        clear hW0
        try go_simp
        rw [← HW0.out]
        refine region_plan (S := fun w2 => w2.cell? ⟨g, o + (j + 1) * 2, none⟩ = some (.int .i64 a1) ∧ w2.cell? ⟨g, o + (j + 1) * 2 + 1, none⟩ = some (.int .i64 a2) ∧ w2.cell? ⟨g, o + j * 2, none⟩ = some (.int .i64 b1) ∧ w2.cell? ⟨g, o + j * 2 + 1, none⟩ = some (.int .i64 b2)) [(0, true), (1, true), (2, true), (3, true), (4, true), (5, true), (6, true), (7, true), (8, true), (9, true), (10, false)] (by as_aux_lemma => kernel_rfl) (by as_aux_lemma => kernel_rfl) (by as_aux_lemma => kernel_rfl) (by as_aux_lemma => kernel_rfl) ⟨(by rw [World.cell?_drew]; exact xc0), (by rw [World.cell?_drew]; exact xc1), (by rw [World.cell?_drew]; exact xc2), (by rw [World.cell?_drew]; exact xc3)⟩ ?_
        have Y0 := Lib.hid (Below.refl W0.heap.size W0).drew
        refine plan_yes (v := ?v1_4) (by simp only [List.getElem?_toArray, List.getElem?_cons_zero, List.getElem?_cons_succ]; exact rfl) (Or.inl ⟨by as_aux_lemma => rfl, ?hy1_4⟩) ?rest1_4
        case hy1_4 => (intro w2 hSw; (try dsimp only at hSw); obtain ⟨s0, s1, s2, s3⟩ := hSw; go_simp; try with_reducible rfl)
        try simp only [Act.put, List.setIfInBounds_toArray, List.set_cons_zero, List.set_cons_succ]
        refine plan_yes (v := ?v2_4) (by simp only [List.getElem?_toArray, List.getElem?_cons_zero, List.getElem?_cons_succ]; exact rfl) (Or.inl ⟨by as_aux_lemma => rfl, ?hy2_4⟩) ?rest2_4
        case hy2_4 => (intro w2 hSw; (try dsimp only at hSw); obtain ⟨s0, s1, s2, s3⟩ := hSw; go_simp; try with_reducible rfl)
        try simp only [Act.put, List.setIfInBounds_toArray, List.set_cons_zero, List.set_cons_succ]
        refine plan_yes (v := ?v3_4) (by simp only [List.getElem?_toArray, List.getElem?_cons_zero, List.getElem?_cons_succ]; exact rfl) (Or.inl ⟨by as_aux_lemma => rfl, ?hy3_4⟩) ?rest3_4
        case hy3_4 => (intro w2 hSw; (try dsimp only at hSw); obtain ⟨s0, s1, s2, s3⟩ := hSw; go_simp; try with_reducible rfl)
        try simp only [Act.put, List.setIfInBounds_toArray, List.set_cons_zero, List.set_cons_succ]
        refine plan_yes (v := ?v4_4) (by simp only [List.getElem?_toArray, List.getElem?_cons_zero, List.getElem?_cons_succ]; exact rfl) (Or.inl ⟨by as_aux_lemma => rfl, ?hy4_4⟩) ?rest4_4
        case hy4_4 => (intro w2 hSw; (try dsimp only at hSw); obtain ⟨s0, s1, s2, s3⟩ := hSw; go_simp; try with_reducible rfl)
        try simp only [Act.put, List.setIfInBounds_toArray, List.set_cons_zero, List.set_cons_succ]
        refine plan_yes (v := ?v5_4) (by simp only [List.getElem?_toArray, List.getElem?_cons_zero, List.getElem?_cons_succ]; exact rfl) (Or.inl ⟨by as_aux_lemma => rfl, ?hy5_4⟩) ?rest5_4
        case hy5_4 => (intro w2 hSw; (try dsimp only at hSw); obtain ⟨s0, s1, s2, s3⟩ := hSw; go_simp; try with_reducible rfl)
        try simp only [Act.put, List.setIfInBounds_toArray, List.set_cons_zero, List.set_cons_succ]
        refine plan_yes (v := ?v6_4) (by simp only [List.getElem?_toArray, List.getElem?_cons_zero, List.getElem?_cons_succ]; exact rfl) (Or.inl ⟨by as_aux_lemma => rfl, ?hy6_4⟩) ?rest6_4
        case hy6_4 => (intro w2 hSw; (try dsimp only at hSw); obtain ⟨s0, s1, s2, s3⟩ := hSw; go_simp; try with_reducible rfl)
        try simp only [Act.put, List.setIfInBounds_toArray, List.set_cons_zero, List.set_cons_succ]
        refine plan_yes (v := ?v7_4) (by simp only [List.getElem?_toArray, List.getElem?_cons_zero, List.getElem?_cons_succ]; exact rfl) (Or.inl ⟨by as_aux_lemma => rfl, ?hy7_4⟩) ?rest7_4
        case hy7_4 => (intro w2 hSw; (try dsimp only at hSw); obtain ⟨s0, s1, s2, s3⟩ := hSw; go_simp; try with_reducible rfl)
        try simp only [Act.put, List.setIfInBounds_toArray, List.set_cons_zero, List.set_cons_succ]
        refine plan_yes (v := ?v8_4) (by simp only [List.getElem?_toArray, List.getElem?_cons_zero, List.getElem?_cons_succ]; exact rfl) (Or.inl ⟨by as_aux_lemma => rfl, ?hy8_4⟩) ?rest8_4
        case hy8_4 => (intro w2 hSw; (try dsimp only at hSw); obtain ⟨s0, s1, s2, s3⟩ := hSw; go_simp; try with_reducible rfl)
        try simp only [Act.put, List.setIfInBounds_toArray, List.set_cons_zero, List.set_cons_succ]
        refine plan_yes (v := ?v9_4) (by simp only [List.getElem?_toArray, List.getElem?_cons_zero, List.getElem?_cons_succ]; exact rfl) (Or.inl ⟨by as_aux_lemma => rfl, ?hy9_4⟩) ?rest9_4
        case hy9_4 => (intro w2 hSw; (try dsimp only at hSw); obtain ⟨s0, s1, s2, s3⟩ := hSw; go_simp; try with_reducible rfl)
        try simp only [Act.put, List.setIfInBounds_toArray, List.set_cons_zero, List.set_cons_succ]
        refine plan_yes (v := ?v10_4) (by simp only [List.getElem?_toArray, List.getElem?_cons_zero, List.getElem?_cons_succ]; exact rfl) (Or.inl ⟨by as_aux_lemma => rfl, ?hy10_4⟩) ?rest10_4
        case hy10_4 => (intro w2 hSw; (try dsimp only at hSw); obtain ⟨s0, s1, s2, s3⟩ := hSw; go_simp; try with_reducible rfl)
        try simp only [Act.put, List.setIfInBounds_toArray, List.set_cons_zero, List.set_cons_succ]
        refine plan_calls (by simp only [List.getElem?_toArray, List.getElem?_cons_zero, List.getElem?_cons_succ]; exact rfl) (by as_aux_lemma => rfl) (fun K hK => ?_)
        go_simp
        refine (H.out _).mono ?_
        rintro e Y1w ⟨rfl, hb1⟩
        have Y1 := Lib.hid (keepS (W0 := W0) Y0.out hb1)
        clear hb1
        refine hK.out _ _ ⟨((Y1.out.cell (p := ⟨g, o + (j + 1) * 2, none⟩) zXC).trans xc0), ((Y1.out.cell (p := ⟨g, o + (j + 1) * 2 + 1, none⟩) zXC).trans xc1), ((Y1.out.cell (p := ⟨g, o + j * 2, none⟩) zXC).trans xc2), ((Y1.out.cell (p := ⟨g, o + j * 2 + 1, none⟩) zXC).trans xc3)⟩ ?_
        clear hK K
        try simp only [Act.put, List.setIfInBounds_toArray, List.set_cons_zero, List.set_cons_succ]
        as_aux_lemma =>
         refine plan_done (NoPanic.normal ?_)
         have B0 := Y1.out
         have BW := Lib.hid (HB0.out.trans (B0.mono zW0))
         have B21 := BW
         clear BW B0  Y0 Y1
         obtain ⟨V21, rfl⟩ : ∃ V, V = Y1w := ⟨_, rfl⟩
         try go_simp
         go_wp2
         go_roundw
         case rel =>
           refine ⟨j + 1, by omega, by go_num, Lib.hid (hBw.out.trans (B21.out.mono hBw.out.size)), Lib.hid (fun q hq => ?_)⟩
           by_cases e : q < j + 1
           · exact hall.out q e
           · obtain rfl : q = j + 1 := by omega
             exact hk.out
         case measure => simp [intOf]; omega
    · obtain rfl : n = j + 1 := by omega
      have d3 : decide ((j : Int) + 1 < ((j + 1 : Nat) : Int)) = false := decide_eq_false (by omega)
      have r := HR.out.below hBw.out hgz
      have hw := once_whole (D := D) (fun q hq => of_decide_eq_true (hall.out q (by rw [HN.out] at hq; exact hq))) (j + 1) (by rw [HN.out]; exact Nat.le_refl _)
      have E : Hid (j + 1 = (onceL D (j + 1)).length ∧ Rd V20 (some ⟨g, o, none⟩) (momVs (onceL D (j + 1)))) := Lib.hid ⟨hw.1.symm, RowM.rd (D := D) hgz2 (fun i hi => by
        rw [hw.1] at hi
        rw [hw.2 i hi]
        exact ⟨r.c0 i (by rw [HN.out]; exact hi), r.c1 i (by rw [HN.out]; exact hi)⟩)⟩
      clear r hw hlt
      go_wp2
      go_ret
      exact ⟨⟨_, rfl, E.out.1, E.out.2⟩, hBw.out.mono (by omega)⟩
end Go.Proofs.YtafecnlaodgmkaaGreatDoor
namespace Go.Proofs.YtafecnlaodgmkaaGreatDoor
set_option linter.unusedVariables false
set_option linter.unusedSimpArgs false
open Go.ChangeShapes Go.WideShapes Go.ChangeAt Go.RowKit
theorem cm_lt (x y : Mom) : Go.Proofs.ltOf cmM x y = decide (x.1 < y.1 ∨ (x.1 = y.1 ∧ y.2 < x.2)) := by
  unfold Go.Proofs.ltOf cmM Go.Lib.compareInt
  rw [Bool.eq_iff_iff, decide_eq_true_eq, decide_eq_true_eq]
  by_cases h1 : x.1 < y.1
  · simp [h1]
  · by_cases h2 : y.1 < x.1
    · simp [h1, h2]; omega
    · have e : x.1 = y.1 := by omega
      by_cases h3 : y.2 < x.2
      · simp [e, h3]
      · by_cases h4 : x.2 < y.2
        · simp [e, h3, h4]
        · simp [e, h3, h4]
theorem swoM : Go.Sort.SWO (Go.Proofs.ltOf cmM) where
  irrefl x := by rw [cm_lt]; simp
  trans x y z h1 h2 := by rw [cm_lt] at *; simp only [decide_eq_true_eq] at *; omega
  ntrans x y z h1 h2 := by rw [cm_lt] at *; simp only [decide_eq_false_iff_not] at *; omega
theorem RowM.holds {w : World} {g : Nat} {D : Array Mom} (h : RowM w g 0 D) : Go.Sort.HoldsK momV 2 w g 0 D := by
  intro t ht
  rw [Go.Sort.size_flatK] at ht
  rw [Go.Sort.get_flatK _ _ _ _ ht]
  have hi : t / 2 < D.size := by omega
  rcases Nat.mod_two_eq_zero_or_one t with e | e
  · rw [e, show 0 + t = 0 + t / 2 * 2 by omega]
    exact ⟨h.c0 (t / 2) hi, h.f0 (t / 2) hi⟩
  · rw [e, show 0 + t = 0 + t / 2 * 2 + 1 by omega]
    exact ⟨h.c1 (t / 2) hi, h.f1 (t / 2) hi⟩
theorem holds_rowM {w : World} {g : Nat} {D : Array Mom} (hg : g < w.heap.size) (h : Go.Sort.HoldsK momV 2 w g 0 D) : RowM w g 0 D :=
  ⟨hg, fun i hi => (h.cell (c := 0) hi (by decide)).1, fun i hi => (h.cell (c := 1) hi (by decide)).1, fun i hi => (h.cell (c := 0) hi (by decide)).2, fun i hi => (h.cell (c := 1) hi (by decide)).2⟩
theorem own_rowM {w : World} {B : Nat} {e : TypeId} {A : Option Addr} {n cap : Nat} {L : List Mom} (h : w.ownsRow B e 2 (.slice A n cap) n (momVs L)) (h0 : 0 < n) :
    ∃ g, A = some ⟨g, 0, none⟩ ∧ B ≤ g ∧ n ≤ cap ∧ L.length = n ∧ RowM w g 0 L.toArray := by
  have hl : L.length = n := by have := h.1; rw [momVs_len] at this; omega
  rcases h.2 with ⟨hv, hn⟩ | ⟨g, cap', cur, hv, hbg, hg, hnc, hcm, hcs, htake⟩
  · omega
  · injection hv with h1 h2 h3
    subst h1 h3
    refine ⟨g, rfl, hbg, hnc, hl, ?_⟩
    have key : ∀ i j, i < n → j < 2 → w.cell? ⟨g, 0 + i * 2 + j, none⟩ = (momV L[i]!)[j]? := by
      intro i j hi hj
      have hat := momVs_at L i (by omega) j hj
      rw [← htake, List.getElem?_take, if_pos (by omega)] at hat
      rw [getElem!_pos L i (by omega), ← hat]
      unfold World.cell?
      rw [hg]
      simp
    have hf : ∀ c, w.frozen? ⟨g, c, none⟩ = false := by intro c; simp [World.frozen?, hg]
    have hd : ∀ (i : Nat), L.toArray[i]! = L[i]! := by intro i; simp
    refine ⟨(Array.getElem?_eq_some_iff.1 hg).1, fun i hi => ?_, fun i hi => ?_, fun i _ => hf _, fun i _ => hf _⟩
    · rw [hd]; exact key i 0 (by simpa [hl] using hi) (by decide)
    · rw [hd]; exact key i 1 (by simpa [hl] using hi) (by decide)
theorem below_sorted {B g n : Nat} {w : World} {D : Array Mom} {os : Array Obj} (hB : B ≤ g) (hw : B ≤ w.heap.size) : Below B w (Go.Proofs.sortWorldK momV 2 w g 0 n D os) := by
  have hsz : (Go.Proofs.sortWorldK momV 2 w g 0 n D os).heap.size = w.heap.size + os.size := by
    simp [Go.Proofs.sortWorldK, Go.Sort.grow, Go.Sort.putRowK, Go.Sort.putRow, Go.Sort.mapBlock, Go.Sort.ahead]
  refine ⟨rfl, rfl, rfl, by omega, fun k hk => ?_⟩
  show ((w.heap.modify g _) ++ os)[k]? = w.heap[k]?
  rw [Array.getElem?_append_left (by simp; omega), Array.getElem?_modify, if_neg (by omega)]
set_option maxRecDepth 100000 in
theorem xSort_any (B g cap n : Nat) (D : Array Mom) (hn : D.size = n) (w : World) (hR : RowM w g 0 D) (hB : B ≤ g) (hs : n ≤ 1000000) :
    Calls Tryz.prog 68 #[.slice (some ⟨g, 0, none⟩) n cap, .func (.func 69) #[] #[]] w fun e w' => (∃ D' : Array Mom, e = .returned (.tuple #[]) ∧ D'.size = n ∧ (∀ m, m ∈ D'.toList ↔ m ∈ D.toList) ∧ SrtM D' ∧ RowM w' g 0 D') ∧ Below B w w' := by
  subst hn
  have eg : ∀ args w, (callFunc 69 args).run Tryz.prog w = .ok (.enter 69 args) w := enters_of Tryz.func69 (by kernel_rfl) rfl
  have hcon := Go.Proofs.AnyQ.slices_SortFunc Tryz.sortM 2 Tryz.isAgg91 Tryz.sizeOf91 momV (fun _ => rfl) (fun x v hv => by simp [momV] at hv; rcases hv with rfl | rfl <;> rfl) cmM swoM 69 #[] g 0 cap D w eg (fun _ _ _ _ x y => xCompare_any x.1 x.2 y.1 y.2 _) hR.holds hR.lt (by omega)
  refine hcon.mono ?_
  rintro e w' ⟨rfl, D', q, os, hp, hS, rfl⟩
  have hp1 : D'.size = D.size := hp.1
  have hp3 := hp.2.2
  have x1 : D'.extract 0 D.size = D' := by rw [← hp1]; simp
  have x2 : D.extract 0 D.size = D := by simp
  rw [x1, x2] at hp3
  refine ⟨⟨D', rfl, hp1, fun m => hp3.mem_iff, fun i j hij hj => ?_, ?_⟩, below_sorted hB (by have := hR.lt; omega)⟩
  · have := hS i j (Nat.zero_le _) hij (by omega)
    rw [cm_lt] at this
    simp only [decide_eq_false_iff_not] at this
    omega
  · refine holds_rowM ?_ (Go.Proofs.holdsK_sortWorldK momV 2 w g 0 q D D' os hR.lt hR.holds hp1)
    have hsz : (Go.Proofs.sortWorldK momV 2 w g 0 q D' os).heap.size = w.heap.size + os.size := by
      simp [Go.Proofs.sortWorldK, Go.Sort.grow, Go.Sort.putRowK, Go.Sort.putRow, Go.Sort.mapBlock, Go.Sort.ahead]
    have := hR.lt
    omega
theorem xSort_none (A : Option Addr) (cap : Nat) (f : Value) (w : World) : Calls Tryz.prog 68 #[.slice A 0 cap, f] w fun e w' => e = .returned (.tuple #[]) ∧ w' = w :=
  Go.Proofs.AnyF.slices_SortFunc_none Tryz.sortM A cap f w
theorem xCompact_row (B g cap n : Nat) (D : Array Mom) (hn : D.size = n) (w : World) (hR : RowM w g 0 D) (hB : B ≤ g) (hs : n ≤ 1000000) (hcap : n ≤ cap) (h1 : 1 ≤ n) :
    Calls Tryz.prog 70 #[.slice (some ⟨g, 0, none⟩) n cap, .func (.func 71) #[] #[]] w fun e w' => (e = .returned (.slice (some ⟨g, 0, none⟩) (onceL D n).length cap) ∧ Rd w' (some ⟨g, 0, none⟩) (momVs (onceL D n))) ∧ Below B w w' := by
  by_cases h2 : 2 ≤ n
  · refine (xCompact_any B g 0 cap n D hn w hR hB hs hcap h2).mono ?_
    rintro e w' ⟨⟨m, rfl, rfl, h⟩, hb⟩
    exact ⟨⟨rfl, h⟩, hb⟩
  · obtain rfl : n = 1 := by omega
    have e1 : onceL D 1 = [D[0]!] := by rw [onceL_yes (Or.inl rfl)]; rfl
    refine (xCompact_few _ 1 cap (by decide) _ w).mono ?_
    rintro e w' ⟨rfl, rfl⟩
    rw [e1]
    refine ⟨⟨rfl, RowM.rd (D := D) hR.lt (fun i hi => ?_)⟩, Below.refl _ _⟩
    obtain rfl : i = 0 := by simpa using hi
    exact ⟨hR.c0 0 (by omega), hR.c1 0 (by omega)⟩
end Go.Proofs.YtafecnlaodgmkaaGreatDoor
namespace Go.Proofs.YtafecnlaodgmkaaGreatDoor
set_option linter.unusedVariables false
set_option linter.unusedSimpArgs false
open Go.ChangeShapes Go.WideShapes Go.ChangeAt Go.RowKit
set_option maxHeartbeats 1600000 in
theorem xWithin_p (n lo hi : Int) (w : World) : Calls Tryz.prog 93 #[.int .i64 n, .int .i64 lo, .int .i64 hi] w fun e w' => e = .returned (.bool (wiB n lo hi)) ∧ w = w' := by
  by_cases h1 : lo ≤ n
  · by_cases h2 : n ≤ hi
    · have E := Lib.hid (wiB_yes h1 h2)
      go_enter Tryz.func93, Tryz.ntmps93
      go_wp2
      go_ret
      exact ⟨by rw [E.out]; simp [*], rfl⟩
    · have E := Lib.hid (wiB_no (n := n) (lo := lo) (hi := hi) (Or.inr (by omega)))
      go_enter Tryz.func93, Tryz.ntmps93
      go_wp2
      go_ret
      exact ⟨by rw [E.out]; simp [*], rfl⟩
  · have E := Lib.hid (wiB_no (n := n) (lo := lo) (hi := hi) (Or.inl (by omega)))
    go_enter Tryz.func93, Tryz.ntmps93
    go_wp2
    go_ret
    exact ⟨by rw [E.out]; simp [*], rfl⟩
set_option maxHeartbeats 1600000 in
theorem xIsYear_p (n : Int) (w : World) : Calls Tryz.prog 66 #[.int .i64 n] w fun e w' => e = .returned (.bool (wiB n (-9999) 9999)) ∧ w = w' := by
  have H := Lib.hid (xWithin_p n (-9999) 9999)
  generalize wiB n (-9999) 9999 = b at *
  go_enter Tryz.func66, Tryz.ntmps66
  go_wp2_with fail
  refine (H.out _).mono ?_
  rintro e w1 ⟨rfl, rfl⟩
  go_wp2
  go_ret
  exact ⟨rfl, rfl⟩
theorem sta_day (y : Int) : staI y = yrN 0 1 0 y 1 * 86400 := by
  unfold yrN staI
  rw [if_pos rfl]
  congr 1
  omega
set_option maxHeartbeats 1600000 in
theorem xFirst_any (y : Int) (y1 : -9999 ≤ y) (y2 : y ≤ 10000) (w : World) (hM : MD w) : Calls Tryz.prog 32 #[.int .i64 y] w fun e w' => e = .returned (.int .i64 (staI y)) ∧ Below w.heap.size w w' := by
  have hd : mayD 0 1 0 = true := by unfold mayD okN; rfl
  have hn : ¬ ((0 : Int) = 0 ∧ mdI y 1 < 1) := by have := mdI_ge y 1 (by omega); omega
  have X := pYrDay_any 0 1 0 y 1
  have hy := yr_ok (k := 0) (n := 1) (w := 0) (y := y) (m := 1) (fun e => by rcases e with e | e | e; rw [hd] at e; cases e; omega; omega) hn (by omega)
  rw [hy.1, hy.2] at X
  have E : Hid (staI y = yrN 0 1 0 y 1 * 86400) := Lib.hid (sta_day y)
  have hb := sta_bd (y := y) (by omega)
  have H := Lib.hid X
  have e2 := E.out
  clear X
  generalize yrN 0 1 0 y 1 = N at *
  generalize staI y = R at *
  have hw : IntKind.i64.wrap (N * 86400) = N * 86400 := w64 (by omega) (by omega)
  clear e2
  replace hM := Lib.hid hM
  go_enter Tryz.func32, Tryz.ntmps32
  go_wp2_with fail
  
  refine (H.out _ (by first | exact md_keep hM (Below.refl w.heap.size w) | exact md_keep hM ((Below.refl w.heap.size w).alloc (Nat.le_refl _) _) | exact md_keep hM (((Below.refl w.heap.size w).alloc (Nat.le_refl _) _).alloc (by simp <;> omega) _) | exact md_keep hM ((((Below.refl w.heap.size w).alloc (Nat.le_refl _) _).alloc (by simp <;> omega) _).alloc (by simp <;> omega) _))).mono ?_
  rintro e V1 ⟨rfl, hb1⟩
  have B1 : Hid (Below w.heap.size w V1) := by first | exact Lib.hid ((Below.refl w.heap.size w).trans (hb1.mono (by first | assumption | (simp <;> omega) | (simp; done)))) | exact Lib.hid (((Below.refl w.heap.size w).alloc (Nat.le_refl _) _).trans (hb1.mono (by first | assumption | (simp <;> omega) | (simp; done)))) | exact Lib.hid ((((Below.refl w.heap.size w).alloc (Nat.le_refl _) _).alloc (by simp <;> omega) _).trans (hb1.mono (by first | assumption | (simp <;> omega) | (simp; done)))) | exact Lib.hid (((((Below.refl w.heap.size w).alloc (Nat.le_refl _) _).alloc (by simp <;> omega) _).alloc (by simp <;> omega) _).trans (hb1.mono (by first | assumption | (simp <;> omega) | (simp; done))))
  clear hb1
  go_simp
  go_wp2
  go_ret
  exact ⟨by rw [E.out]; rfl, B1.out⟩
set_option maxHeartbeats 3200000 in
set_option maxRecDepth 100000 in
theorem xLater_any (x : Int) (i : Nat) (hi : i < 19999) (b : Nat) (w : World) (hM : MD w) (hx : w.cell? ⟨b, 0, none⟩ = some (.int .i64 x)) : Calls Tryz.prog 99 #[.int .i64 (i : Int), .pointer (some ⟨b, 0, none⟩)] w fun e w' => e = .returned (.bool (decide (x < staI (-9999 + (i : Int))))) ∧ Below w.heap.size w w' := by
  have H := Lib.hid (xFirst_any (-9999 + (i : Int)) (by omega) (by omega))
  have hw : IntKind.i64.wrap (-9999 + (i : Int)) = -9999 + (i : Int) := w64 (by omega) (by omega)
  generalize hs : staI (-9999 + (i : Int)) = S at *
  have hb := World.block_lt_of_cell? w ⟨b, 0, none⟩ hx
  have hb' : b < w.heap.size := hb
  replace hM := Lib.hid hM
  go_enter Tryz.func99, Tryz.ntmps99
  go_wp2_with fail
  
  obtain ⟨W0, hW0⟩ : ∃ W0, W0 = w := ⟨_, rfl⟩
  have xc0 : W0.cell? ⟨b, 0, none⟩ = some (.int .i64 x) := by (rw [hW0]; first | assumption | (simp; assumption))
  have HB0 := Lib.hid (below_by hW0 (Below.refl w.heap.size w))
  have zXC : b < W0.heap.size := by first | (have := HB0.out.size; omega) | (rw [hW0]; omega) | (rw [hW0]; simp; omega)
  have zW0 := HB0.out.size
  have HW0 := Lib.hid hW0
  clear hW0
  try go_simp
  rw [← HW0.out]
  refine region_plan (S := fun w2 => w2.cell? ⟨b, 0, none⟩ = some (.int .i64 x)) [(0, true), (1, true), (3, true), (2, false), (4, true), (5, true)] (by as_aux_lemma => kernel_rfl) (by as_aux_lemma => kernel_rfl) (by as_aux_lemma => kernel_rfl) (by as_aux_lemma => kernel_rfl) (by rw [World.cell?_drew]; exact xc0) ?_
  have Y0 := Lib.hid (Below.refl W0.heap.size W0).drew
  refine plan_yes (v := ?v1_1) (by simp only [List.getElem?_toArray, List.getElem?_cons_zero, List.getElem?_cons_succ]; exact rfl) (Or.inl ⟨by as_aux_lemma => rfl, ?hy1_1⟩) ?rest1_1
  case hy1_1 => (intro w2 hSw; (try dsimp only at hSw); have s0 := hSw; clear hSw; go_simp; try with_reducible rfl)
  try simp only [Act.put, List.setIfInBounds_toArray, List.set_cons_zero, List.set_cons_succ]
  refine plan_yes (v := ?v2_1) (by simp only [List.getElem?_toArray, List.getElem?_cons_zero, List.getElem?_cons_succ]; exact rfl) (Or.inl ⟨by as_aux_lemma => rfl, ?hy2_1⟩) ?rest2_1
  case hy2_1 => (intro w2 hSw; (try dsimp only at hSw); have s0 := hSw; clear hSw; go_simp; try with_reducible rfl)
  try simp only [Act.put, List.setIfInBounds_toArray, List.set_cons_zero, List.set_cons_succ]
  refine plan_yes (v := ?v3_1) (by simp only [List.getElem?_toArray, List.getElem?_cons_zero, List.getElem?_cons_succ]; exact rfl) (Or.inl ⟨by as_aux_lemma => rfl, ?hy3_1⟩) ?rest3_1
  case hy3_1 => (intro w2 hSw; (try dsimp only at hSw); have s0 := hSw; clear hSw; go_simp; try with_reducible rfl)
  try simp only [Act.put, List.setIfInBounds_toArray, List.set_cons_zero, List.set_cons_succ]
  refine plan_calls (by simp only [List.getElem?_toArray, List.getElem?_cons_zero, List.getElem?_cons_succ]; exact rfl) (by as_aux_lemma => rfl) (fun K hK => ?_)
  go_simp
  refine (H.out _ (md_keep (Lib.hid (md_keep hM HB0.out)) Y0.out)).mono ?_
  rintro e Y1w ⟨rfl, hb1⟩
  have Y1 := Lib.hid (keepS (W0 := W0) Y0.out hb1)
  clear hb1
  refine hK.out _ _ ((Y1.out.cell (p := ⟨b, 0, none⟩) zXC).trans xc0) ?_
  clear hK K
  try simp only [Act.put, List.setIfInBounds_toArray, List.set_cons_zero, List.set_cons_succ]
  as_aux_lemma =>
   refine plan_yes (v := ?v4_1) (by simp only [List.getElem?_toArray, List.getElem?_cons_zero, List.getElem?_cons_succ]; exact rfl) (Or.inl ⟨by as_aux_lemma => rfl, ?hy4_1⟩) ?rest4_1
   case hy4_1 => (intro w2 hSw; (try dsimp only at hSw); have s0 := hSw; clear hSw; go_simp; try with_reducible rfl)
   try simp only [Act.put, List.setIfInBounds_toArray, List.set_cons_zero, List.set_cons_succ]
   refine plan_yes (v := ?v5_1) (by simp only [List.getElem?_toArray, List.getElem?_cons_zero, List.getElem?_cons_succ]; exact rfl) (Or.inl ⟨by as_aux_lemma => rfl, ?hy5_1⟩) ?rest5_1
   case hy5_1 => (intro w2 hSw; (try dsimp only at hSw); have s0 := hSw; clear hSw; go_simp; try with_reducible rfl)
   try simp only [Act.put, List.setIfInBounds_toArray, List.set_cons_zero, List.set_cons_succ]
   refine plan_done (NoPanic.normal ?_)
   have B0 := Y1.out
   have BW := Lib.hid (HB0.out.trans (B0.mono zW0))
   have B1 := BW
   clear BW B0  Y0 Y1
   obtain ⟨V1, rfl⟩ : ∃ V, V = Y1w := ⟨_, rfl⟩
   try go_simp
   go_wp2
   go_ret
   exact ⟨rfl, B1.out⟩
set_option maxHeartbeats 4000000 in
set_option maxRecDepth 1000000 in
theorem xSearch_any (b : Nat) (p : Nat → Bool) (w : World)
    (hf : ∀ V : World, Below w.heap.size w V → ∀ i : Nat, i < 19999 → Calls Tryz.prog 99 #[.int .i64 (i : Int), .pointer (some ⟨b, 0, none⟩)] V fun e w' => e = .returned (.bool (p i)) ∧ Below V.heap.size V w')
    (hmono : ∀ i j, i ≤ j → j < 19999 → p i = true → p j = true) :
    Calls Tryz.prog 100 #[.int .i64 19999, .func (.func 99) #[] #[.pointer (some ⟨b, 0, none⟩)]] w fun e w' => (∃ c : Nat, e = .returned (.int .i64 (c : Int)) ∧ c ≤ 19999 ∧ (∀ t, t < c → p t = false) ∧ (∀ t, c ≤ t → t < 19999 → p t = true)) ∧ Below w.heap.size w w' := by
  have HF := Lib.hid hf
  have M := Lib.hid hmono
  clear hf hmono
  go_enter Tryz.func100, Tryz.ntmps100
  go_wp2
  go_loopw [5, 6] (fun i j wr => ∃ lo hi : Nat, i = .int .i64 (lo : Int) ∧ j = .int .i64 (hi : Int) ∧ lo ≤ hi ∧ hi ≤ 19999 ∧ Hid (Below w.heap.size w wr) ∧ Hid ((∀ t, t < lo → p t = false) ∧ (∀ t, hi ≤ t → t < 19999 → p t = true))) (fun i j _ => (intOf j - intOf i).toNat)
  case atStart => exact ⟨0, 19999, rfl, rfl, Nat.zero_le _, Nat.le_refl _, Lib.hid (Below.refl _ _), Lib.hid ⟨fun t ht => absurd ht (Nat.not_lt_zero _), fun t h1 h2 => by omega⟩⟩
  case round =>
    obtain ⟨lo, hi, rfl, rfl, hlh, hin, hB, I⟩ := hrel
    by_cases hlt : lo < hi
    · have hc := HF.out wr hB.out ((lo + hi) / 2) (by omega)
      rw [show (((lo + hi) / 2 : Nat) : Int) = ((lo : Int) + (hi : Int)) / 2 by omega] at hc
      cases hp : p ((lo + hi) / 2) <;> rw [hp] at hc
      · have HP := Lib.hid hp
        have HC := Lib.hid hc
        clear hp hc
        go_wp2_with fail
        refine HC.out.mono ?_
        rintro e w1 ⟨rfl, hb1⟩
        have B1 := Lib.hid (hB.out.trans (hb1.mono hB.out.size))
        clear hb1 HC
        go_wp2
        go_roundw
        case rel =>
          refine ⟨(lo + hi) / 2 + 1, hi, by go_num, rfl, by omega, hin, B1, Lib.hid ⟨fun t ht => ?_, I.out.2⟩⟩
          cases h : p t with
          | false => rfl
          | true => have := M.out t ((lo + hi) / 2) (by omega) (by omega) h; rw [HP.out] at this; cases this
        case measure => simp [intOf]; omega
      · have HP := Lib.hid hp
        have HC := Lib.hid hc
        clear hp hc
        go_wp2_with fail
        refine HC.out.mono ?_
        rintro e w1 ⟨rfl, hb1⟩
        have B1 := Lib.hid (hB.out.trans (hb1.mono hB.out.size))
        clear hb1 HC
        go_wp2
        go_roundw
        case rel => exact ⟨lo, (lo + hi) / 2, rfl, by go_num, by omega, by omega, B1, Lib.hid ⟨I.out.1, fun t ht htn => M.out ((lo + hi) / 2) t ht htn HP.out⟩⟩
        case measure => simp [intOf]; omega
    · obtain rfl : hi = lo := by omega
      go_wp2
      go_ret
      exact ⟨⟨hi, rfl, hin, I.out.1, I.out.2⟩, hB.out⟩
set_option maxHeartbeats 3200000 in
set_option maxRecDepth 100000 in
theorem xYearOf_ex (x : Int) (w : World) (hM : MD w) : Calls Tryz.prog 73 #[.int .i64 x] w fun e w' => (∃ Y, e = .returned (.int .i64 Y) ∧ YoI x Y) ∧ Below w.heap.size w w' := by
  have hmf : ∀ (fn : Fn) (first cap : Array Value) (w : World), (Instr.makeFunc fn first cap).run Tryz.prog w = .ok (.func fn first cap) w := fun _ _ _ _ => rfl
  have H := Lib.hid (xSearch_any w.heap.size (fun i => decide (x < staI (-9999 + (i : Int)))) (w.alloc (.cells #[.int .i64 x] 3)) (fun V hV i hi => by
    refine xLater_any x i hi w.heap.size V (md_keep (Lib.hid hM) (((Below.refl _ w).alloc (Nat.le_refl _) _).trans (hV.mono (by simp)))) ?_
    refine (hV.cell (p := ⟨w.heap.size, 0, none⟩) (by simp)).trans ?_
    simp) (fun i j hij hj h => by
    simp only [decide_eq_true_eq] at h ⊢
    have := sta_le (a := -9999 + (i : Int)) (b := -9999 + (j : Int)) (by omega)
    omega))
  clear hM
  go_enter Tryz.func73, Tryz.ntmps73
  go_wp2_with fail
  refine H.out.mono ?_
  rintro e w1 ⟨⟨c, rfl, hc, h1, h2⟩, hb⟩
  have hw : IntKind.i64.wrap (-9999 + (c : Int)) = -9999 + (c : Int) := w64 (by omega) (by omega)
  have hw2 : IntKind.i64.wrap (-9999 + (c : Int) - 1) = -9999 + (c : Int) - 1 := w64 (by omega) (by omega)
  have B1 : Hid (Below w.heap.size w w1) := Lib.hid (((Below.refl _ w).alloc (Nat.le_refl _) _).trans (hb.mono (by simp)))
  have hY : Hid (YoI x (-9999 + (c : Int) - 1)) := Lib.hid (by
    refine ⟨by omega, by omega, ?_, ?_⟩
    · by_cases h0 : c = 0
      · left; omega
      · right
        have := h1 (c - 1) (by omega)
        simp only [decide_eq_false_iff_not] at this
        rw [show -9999 + ((c - 1 : Nat) : Int) = -9999 + (c : Int) - 1 by omega] at this
        omega
    · by_cases h0 : c = 19999
      · left; omega
      · right
        have := h2 c (Nat.le_refl _) (by omega)
        simp only [decide_eq_true_eq] at this
        rw [show -9999 + (c : Int) - 1 + 1 = -9999 + (c : Int) by omega]
        exact this)
  clear h1 h2 hb H
  go_wp2
  go_ret
  exact ⟨⟨_, rfl, hY.out⟩, B1.out⟩
theorem xYearOf_is {x Y : Int} (hY : YoI x Y) (w : World) (hM : MD w) : Calls Tryz.prog 73 #[.int .i64 x] w fun e w' => e = .returned (.int .i64 Y) ∧ Below w.heap.size w w' := by
  refine (xYearOf_ex x w hM).mono ?_
  rintro e w' ⟨⟨Z, rfl, hZ⟩, hb⟩
  rw [yo_uniq hY hZ]
  exact ⟨rfl, hb⟩
end Go.Proofs.YtafecnlaodgmkaaGreatDoor
