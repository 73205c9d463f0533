/- Several texts in one: RpI, RpJ. -/
import Derived.Test.YteinjdmkmfeniaaGreatDoorZRul1
import Derived.Test.YteinjdmkmfeniaaGreatDoorZRp1
import Derived.Test.YteinjdmkmfeniaaGreatDoorZRp2
namespace Go.Proofs.YteinjdmkmfeniaaGreatDoor
set_option linter.unusedVariables false
set_option linter.unusedSimpArgs false
open Go.ChangeShapes Go.WideShapes Go.ChangeAt Go.RowKit
theorem nmW_ok {x : Int} (h : 1 ≤ x ∧ x ≤ 7) : nmW x = wkS x := if_pos h
theorem dwL_ruD {k n x : Int} (h : mayD k n x = true) : dwL k n x = ruD k n x := by
  rcases mayD_parts h with ⟨rfl, _, rfl⟩ | ⟨rfl, hx, rfl⟩ | ⟨rfl, hx, _⟩ | ⟨rfl, hx, _⟩
  · unfold dwL ruD; rfl
  · unfold dwL ruD; rw [nmW_ok hx]; rfl
  · unfold dwL ruD; rw [nmW_ok hx]; rfl
  · unfold dwL ruD; rw [nmW_ok hx]; rfl
theorem told_iff (k n x : Int) : ((dayR (dwL k n x)).2.2.2 = 0 ∧ (dayR (dwL k n x)).1 = k ∧ (dayR (dwL k n x)).2.1 = n ∧ (dayR (dwL k n x)).2.2.1 = x) ↔ mayD k n x = true := by
  constructor
  · rintro ⟨h0, h1, h2, h3⟩
    have := day_in h0
    rwa [h1, h2, h3] at this
  · intro h
    rw [dwL_ruD h, (day_back h).1]
    exact ⟨rfl, rfl, rfl, rfl⟩
theorem dwL_len (k n x : Int) (h0 : -9223372036854775808 ≤ n) (h1 : n ≤ 9223372036854775807) : (dwL k n x).length ≤ 100000 := by
  have a := nbI_len21 h0 h1
  have b := nmW_len x
  unfold dwL
  split
  · omega
  · split
    · rw [List.length_append]; have : lastL.length = 5 := rfl; omega
    · split
      · rw [List.length_append, List.length_append]; simp; omega
      · split
        · rw [List.length_append, List.length_append]; simp; omega
        · simp
set_option maxHeartbeats 1600000 in
set_option maxRecDepth 100000 in
theorem pTold_any (k n x : Int) (n0 : -9223372036854775808 ≤ n) (n1 : n ≤ 9223372036854775807) (w : World) (hK : KX w) : Calls Tryz.prog 44 #[.agg #[.int .i64 k, .int .i64 n, .int .i64 x]] w fun e w' => e = .returned (.bool (mayD k n x)) ∧ Below w.heap.size w w' := by
  have HD := Lib.hid (pDayWord_any k n x n0 n1)
  have XW := pDay_any (dwL k n x) (dwL_len k n x n0 n1)
  have HT := told_iff k n x
  generalize dwL k n x = L at *
  generalize dayR L = R at *
  obtain ⟨a, b, c, e⟩ := R
  simp only at XW HT
  clear n0 n1
  replace hK := Lib.hid hK
  have hTw : Hid (TW w) := Lib.hid hK.out.tw
  have hM := hK
  by_cases h0 : e = 0
  · by_cases h1 : a = k
    · by_cases h2 : b = n
      · by_cases h3 : c = x
        · have E : Hid (mayD k n x = true) := Lib.hid (HT.1 ⟨h0, h1, h2, h3⟩)
          have HW := Lib.hid XW
          clear XW HT
          have q0 : (e == 0) = true := by rw [h0]; rfl
          have q1 : (a == k) = true := by rw [h1]; exact beq_self_eq_true k
          have q2 : (b == n) = true := by rw [h2]; exact beq_self_eq_true n
          have q3 : (c == x) = true := by rw [h3]; exact beq_self_eq_true x
          replace h0 := Lib.hid h0
          replace h1 := Lib.hid h1
          replace h2 := Lib.hid h2
          replace h3 := Lib.hid h3
          go_enter Tryz.func44, Tryz.ntmps44
          go_wp2_with fail
          
          refine (HD.out _ (by first | exact kx_keep hM ((Below.refl w.heap.size w).alloc (Nat.le_refl _) _))).mono ?_
          rintro e V1 ⟨rfl, hb1⟩
          have B1 := Lib.hid (((Below.refl w.heap.size w).alloc (Nat.le_refl _) _).trans (hb1.mono (by first | assumption | (simp <;> omega) | (simp; done))))
          have D1 := Lib.hid (row_call hb1 (heap_alloc_new _ _))
          clear hb1
          have D1_0 : V1.cell? ⟨w.heap.size, 0, none⟩ = some (.int .i64 k) := cell_of_row _ _ _ _ _ _ D1.out
          have D1_1 : V1.cell? ⟨w.heap.size, 1, none⟩ = some (.int .i64 n) := cell_of_row _ _ _ _ _ _ D1.out
          have D1_2 : V1.cell? ⟨w.heap.size, 2, none⟩ = some (.int .i64 x) := cell_of_row _ _ _ _ _ _ D1.out
          have zD1 := lt_of_heap D1.out
          go_simp
          go_wp2_with fail
          refine (HW.out _ (tw_keep hTw B1.out)).mono ?_
          rintro e9 w9 ⟨rfl, hb9⟩
          have B9 := Lib.hid (B1.out.trans (hb9.mono B1.out.size))
          have D9 := row_call hb9 D1.out
          have d0 : w9.cell? ⟨w.heap.size, 0, none⟩ = some (.int .i64 k) := cell_of_row _ _ _ _ _ _ D9
          have d1 : w9.cell? ⟨w.heap.size, 1, none⟩ = some (.int .i64 n) := cell_of_row _ _ _ _ _ _ D9
          have d2 : w9.cell? ⟨w.heap.size, 2, none⟩ = some (.int .i64 x) := cell_of_row _ _ _ _ _ _ D9
          have dl := lt_of_heap D9
          clear hb9 D9 D1_0 D1_1 D1_2
          replace D1 := Lib.hid D1
          go_wp2
          go_ret
          exact ⟨by rw [E.out]; try rfl, B9.out.alloc B9.out.size _⟩
        · have E : Hid (mayD k n x = false) := Lib.hid (by rw [Bool.eq_false_iff]; intro q; have := HT.2 q; omega)
          have HW := Lib.hid XW
          clear XW HT
          have q0 : (e == 0) = true := by rw [h0]; rfl
          have q1 : (a == k) = true := by rw [h1]; exact beq_self_eq_true k
          have q2 : (b == n) = true := by rw [h2]; exact beq_self_eq_true n
          have q3 : (c == x) = false := beq_false_of_ne h3
          replace h0 := Lib.hid h0
          replace h1 := Lib.hid h1
          replace h2 := Lib.hid h2
          replace h3 := Lib.hid h3
          go_enter Tryz.func44, Tryz.ntmps44
          go_wp2_with fail
          
          refine (HD.out _ (by first | exact kx_keep hM ((Below.refl w.heap.size w).alloc (Nat.le_refl _) _))).mono ?_
          rintro e V1 ⟨rfl, hb1⟩
          have B1 := Lib.hid (((Below.refl w.heap.size w).alloc (Nat.le_refl _) _).trans (hb1.mono (by first | assumption | (simp <;> omega) | (simp; done))))
          have D1 := Lib.hid (row_call hb1 (heap_alloc_new _ _))
          clear hb1
          have D1_0 : V1.cell? ⟨w.heap.size, 0, none⟩ = some (.int .i64 k) := cell_of_row _ _ _ _ _ _ D1.out
          have D1_1 : V1.cell? ⟨w.heap.size, 1, none⟩ = some (.int .i64 n) := cell_of_row _ _ _ _ _ _ D1.out
          have D1_2 : V1.cell? ⟨w.heap.size, 2, none⟩ = some (.int .i64 x) := cell_of_row _ _ _ _ _ _ D1.out
          have zD1 := lt_of_heap D1.out
          go_simp
          go_wp2_with fail
          refine (HW.out _ (tw_keep hTw B1.out)).mono ?_
          rintro e9 w9 ⟨rfl, hb9⟩
          have B9 := Lib.hid (B1.out.trans (hb9.mono B1.out.size))
          have D9 := row_call hb9 D1.out
          have d0 : w9.cell? ⟨w.heap.size, 0, none⟩ = some (.int .i64 k) := cell_of_row _ _ _ _ _ _ D9
          have d1 : w9.cell? ⟨w.heap.size, 1, none⟩ = some (.int .i64 n) := cell_of_row _ _ _ _ _ _ D9
          have d2 : w9.cell? ⟨w.heap.size, 2, none⟩ = some (.int .i64 x) := cell_of_row _ _ _ _ _ _ D9
          have dl := lt_of_heap D9
          clear hb9 D9 D1_0 D1_1 D1_2
          replace D1 := Lib.hid D1
          go_wp2
          go_ret
          exact ⟨by rw [E.out]; try rfl, B9.out.alloc B9.out.size _⟩
      · have E : Hid (mayD k n x = false) := Lib.hid (by rw [Bool.eq_false_iff]; intro q; have := HT.2 q; omega)
        have HW := Lib.hid XW
        clear XW HT
        have q0 : (e == 0) = true := by rw [h0]; rfl
        have q1 : (a == k) = true := by rw [h1]; exact beq_self_eq_true k
        have q2 : (b == n) = false := beq_false_of_ne h2
        replace h0 := Lib.hid h0
        replace h1 := Lib.hid h1
        replace h2 := Lib.hid h2
        go_enter Tryz.func44, Tryz.ntmps44
        go_wp2_with fail
        
        refine (HD.out _ (by first | exact kx_keep hM ((Below.refl w.heap.size w).alloc (Nat.le_refl _) _))).mono ?_
        rintro e V1 ⟨rfl, hb1⟩
        have B1 := Lib.hid (((Below.refl w.heap.size w).alloc (Nat.le_refl _) _).trans (hb1.mono (by first | assumption | (simp <;> omega) | (simp; done))))
        have D1 := Lib.hid (row_call hb1 (heap_alloc_new _ _))
        clear hb1
        have D1_0 : V1.cell? ⟨w.heap.size, 0, none⟩ = some (.int .i64 k) := cell_of_row _ _ _ _ _ _ D1.out
        have D1_1 : V1.cell? ⟨w.heap.size, 1, none⟩ = some (.int .i64 n) := cell_of_row _ _ _ _ _ _ D1.out
        have D1_2 : V1.cell? ⟨w.heap.size, 2, none⟩ = some (.int .i64 x) := cell_of_row _ _ _ _ _ _ D1.out
        have zD1 := lt_of_heap D1.out
        go_simp
        go_wp2_with fail
        refine (HW.out _ (tw_keep hTw B1.out)).mono ?_
        rintro e9 w9 ⟨rfl, hb9⟩
        have B9 := Lib.hid (B1.out.trans (hb9.mono B1.out.size))
        have D9 := row_call hb9 D1.out
        have d0 : w9.cell? ⟨w.heap.size, 0, none⟩ = some (.int .i64 k) := cell_of_row _ _ _ _ _ _ D9
        have d1 : w9.cell? ⟨w.heap.size, 1, none⟩ = some (.int .i64 n) := cell_of_row _ _ _ _ _ _ D9
        have d2 : w9.cell? ⟨w.heap.size, 2, none⟩ = some (.int .i64 x) := cell_of_row _ _ _ _ _ _ D9
        have dl := lt_of_heap D9
        clear hb9 D9 D1_0 D1_1 D1_2
        replace D1 := Lib.hid D1
        go_wp2
        go_ret
        exact ⟨by rw [E.out]; try rfl, B9.out.alloc B9.out.size _⟩
    · have E : Hid (mayD k n x = false) := Lib.hid (by rw [Bool.eq_false_iff]; intro q; have := HT.2 q; omega)
      have HW := Lib.hid XW
      clear XW HT
      have q0 : (e == 0) = true := by rw [h0]; rfl
      have q1 : (a == k) = false := beq_false_of_ne h1
      replace h0 := Lib.hid h0
      replace h1 := Lib.hid h1
      go_enter Tryz.func44, Tryz.ntmps44
      go_wp2_with fail
      
      refine (HD.out _ (by first | exact kx_keep hM ((Below.refl w.heap.size w).alloc (Nat.le_refl _) _))).mono ?_
      rintro e V1 ⟨rfl, hb1⟩
      have B1 := Lib.hid (((Below.refl w.heap.size w).alloc (Nat.le_refl _) _).trans (hb1.mono (by first | assumption | (simp <;> omega) | (simp; done))))
      have D1 := Lib.hid (row_call hb1 (heap_alloc_new _ _))
      clear hb1
      have D1_0 : V1.cell? ⟨w.heap.size, 0, none⟩ = some (.int .i64 k) := cell_of_row _ _ _ _ _ _ D1.out
      have D1_1 : V1.cell? ⟨w.heap.size, 1, none⟩ = some (.int .i64 n) := cell_of_row _ _ _ _ _ _ D1.out
      have D1_2 : V1.cell? ⟨w.heap.size, 2, none⟩ = some (.int .i64 x) := cell_of_row _ _ _ _ _ _ D1.out
      have zD1 := lt_of_heap D1.out
      go_simp
      go_wp2_with fail
      refine (HW.out _ (tw_keep hTw B1.out)).mono ?_
      rintro e9 w9 ⟨rfl, hb9⟩
      have B9 := Lib.hid (B1.out.trans (hb9.mono B1.out.size))
      have D9 := row_call hb9 D1.out
      have d0 : w9.cell? ⟨w.heap.size, 0, none⟩ = some (.int .i64 k) := cell_of_row _ _ _ _ _ _ D9
      have d1 : w9.cell? ⟨w.heap.size, 1, none⟩ = some (.int .i64 n) := cell_of_row _ _ _ _ _ _ D9
      have d2 : w9.cell? ⟨w.heap.size, 2, none⟩ = some (.int .i64 x) := cell_of_row _ _ _ _ _ _ D9
      have dl := lt_of_heap D9
      clear hb9 D9 D1_0 D1_1 D1_2
      replace D1 := Lib.hid D1
      go_wp2
      go_ret
      exact ⟨by rw [E.out]; try rfl, B9.out.alloc B9.out.size _⟩
  · have E : Hid (mayD k n x = false) := Lib.hid (by rw [Bool.eq_false_iff]; intro q; have := HT.2 q; omega)
    have HW := Lib.hid XW
    clear XW HT
    have q0 : (e == 0) = false := beq_false_of_ne h0
    replace h0 := Lib.hid h0
    go_enter Tryz.func44, Tryz.ntmps44
    go_wp2_with fail
    
    refine (HD.out _ (by first | exact kx_keep hM ((Below.refl w.heap.size w).alloc (Nat.le_refl _) _))).mono ?_
    rintro e V1 ⟨rfl, hb1⟩
    have B1 := Lib.hid (((Below.refl w.heap.size w).alloc (Nat.le_refl _) _).trans (hb1.mono (by first | assumption | (simp <;> omega) | (simp; done))))
    have D1 := Lib.hid (row_call hb1 (heap_alloc_new _ _))
    clear hb1
    have D1_0 : V1.cell? ⟨w.heap.size, 0, none⟩ = some (.int .i64 k) := cell_of_row _ _ _ _ _ _ D1.out
    have D1_1 : V1.cell? ⟨w.heap.size, 1, none⟩ = some (.int .i64 n) := cell_of_row _ _ _ _ _ _ D1.out
    have D1_2 : V1.cell? ⟨w.heap.size, 2, none⟩ = some (.int .i64 x) := cell_of_row _ _ _ _ _ _ D1.out
    have zD1 := lt_of_heap D1.out
    go_simp
    go_wp2_with fail
    refine (HW.out _ (tw_keep hTw B1.out)).mono ?_
    rintro e9 w9 ⟨rfl, hb9⟩
    have B9 := Lib.hid (B1.out.trans (hb9.mono B1.out.size))
    have D9 := row_call hb9 D1.out
    have d0 : w9.cell? ⟨w.heap.size, 0, none⟩ = some (.int .i64 k) := cell_of_row _ _ _ _ _ _ D9
    have d1 : w9.cell? ⟨w.heap.size, 1, none⟩ = some (.int .i64 n) := cell_of_row _ _ _ _ _ _ D9
    have d2 : w9.cell? ⟨w.heap.size, 2, none⟩ = some (.int .i64 x) := cell_of_row _ _ _ _ _ _ D9
    have dl := lt_of_heap D9
    clear hb9 D9 D1_0 D1_1 D1_2
    replace D1 := Lib.hid D1
    go_wp2
    go_ret
    exact ⟨by rw [E.out]; try rfl, B9.out.alloc B9.out.size _⟩
set_option maxHeartbeats 1600000 in
set_option maxRecDepth 100000 in
theorem mnAt_f (s f t m dk dn dw ti rd off : Int) (dst : Bool) (S : ByteArray) (h : f ≠ 0) (w : World) :
    Calls Tryz.prog 22 #[.agg #[.int .i64 1, .int .i64 s, .int .i64 f, .int .i64 t, .int .i64 m, .int .i64 dk, .int .i64 dn, .int .i64 dw, .int .i64 ti, .int .i64 rd, .int .i64 off, .bool dst, .string S]] w fun e w' => e = .returned (.bool true) ∧ Below w.heap.size w w' := by
  have h1 : (f == 0) = false := beq_eq_false_iff_ne.2 h
  have h2 : (f != 0) = true := by rw [bne_iff_ne]; exact h
  go_enter Tryz.func22, Tryz.ntmps22
  go_wp2
  go_ret
  exact ⟨rfl, (Below.refl _ _).alloc (Nat.le_refl _) _⟩
set_option maxHeartbeats 1600000 in
set_option maxRecDepth 100000 in
theorem mnAt_t (s t m dk dn dw ti rd off : Int) (dst : Bool) (S : ByteArray) (h : t ≠ 0) (w : World) :
    Calls Tryz.prog 22 #[.agg #[.int .i64 1, .int .i64 s, .int .i64 0, .int .i64 t, .int .i64 m, .int .i64 dk, .int .i64 dn, .int .i64 dw, .int .i64 ti, .int .i64 rd, .int .i64 off, .bool dst, .string S]] w fun e w' => e = .returned (.bool true) ∧ Below w.heap.size w w' := by
  have h1 : (t == 0) = false := beq_eq_false_iff_ne.2 h
  have h2 : (t != 0) = true := by rw [bne_iff_ne]; exact h
  go_enter Tryz.func22, Tryz.ntmps22
  go_wp2
  go_ret
  exact ⟨rfl, (Below.refl _ _).alloc (Nat.le_refl _) _⟩
set_option maxHeartbeats 1600000 in
set_option maxRecDepth 100000 in
theorem mnAt_m (s m dk dn dw ti rd off : Int) (dst : Bool) (S : ByteArray) (h : m ≠ 0) (w : World) :
    Calls Tryz.prog 22 #[.agg #[.int .i64 1, .int .i64 s, .int .i64 0, .int .i64 0, .int .i64 m, .int .i64 dk, .int .i64 dn, .int .i64 dw, .int .i64 ti, .int .i64 rd, .int .i64 off, .bool dst, .string S]] w fun e w' => e = .returned (.bool true) ∧ Below w.heap.size w w' := by
  have h1 : (m == 0) = false := beq_eq_false_iff_ne.2 h
  have h2 : (m != 0) = true := by rw [bne_iff_ne]; exact h
  go_enter Tryz.func22, Tryz.ntmps22
  go_wp2
  go_ret
  exact ⟨rfl, (Below.refl _ _).alloc (Nat.le_refl _) _⟩
set_option maxHeartbeats 1600000 in
set_option maxRecDepth 100000 in
theorem mnAt_dk (s dk dn dw ti rd off : Int) (dst : Bool) (S : ByteArray) (h : dk ≠ 0) (w : World) :
    Calls Tryz.prog 22 #[.agg #[.int .i64 1, .int .i64 s, .int .i64 0, .int .i64 0, .int .i64 0, .int .i64 dk, .int .i64 dn, .int .i64 dw, .int .i64 ti, .int .i64 rd, .int .i64 off, .bool dst, .string S]] w fun e w' => e = .returned (.bool true) ∧ Below w.heap.size w w' := by
  have h1 : (dk == 0) = false := beq_eq_false_iff_ne.2 h
  have h2 : (dk != 0) = true := by rw [bne_iff_ne]; exact h
  go_enter Tryz.func22, Tryz.ntmps22
  go_wp2
  go_ret
  exact ⟨rfl, (Below.refl _ _).alloc (Nat.le_refl _) _⟩
set_option maxHeartbeats 1600000 in
set_option maxRecDepth 100000 in
theorem mnAt_dn (s dn dw ti rd off : Int) (dst : Bool) (S : ByteArray) (h : dn ≠ 0) (w : World) :
    Calls Tryz.prog 22 #[.agg #[.int .i64 1, .int .i64 s, .int .i64 0, .int .i64 0, .int .i64 0, .int .i64 0, .int .i64 dn, .int .i64 dw, .int .i64 ti, .int .i64 rd, .int .i64 off, .bool dst, .string S]] w fun e w' => e = .returned (.bool true) ∧ Below w.heap.size w w' := by
  have h1 : (dn == 0) = false := beq_eq_false_iff_ne.2 h
  have h2 : (dn != 0) = true := by rw [bne_iff_ne]; exact h
  go_enter Tryz.func22, Tryz.ntmps22
  go_wp2
  go_ret
  exact ⟨rfl, (Below.refl _ _).alloc (Nat.le_refl _) _⟩
set_option maxHeartbeats 1600000 in
set_option maxRecDepth 100000 in
theorem mnAt_dw (s dw ti rd off : Int) (dst : Bool) (S : ByteArray) (h : dw ≠ 0) (w : World) :
    Calls Tryz.prog 22 #[.agg #[.int .i64 1, .int .i64 s, .int .i64 0, .int .i64 0, .int .i64 0, .int .i64 0, .int .i64 0, .int .i64 dw, .int .i64 ti, .int .i64 rd, .int .i64 off, .bool dst, .string S]] w fun e w' => e = .returned (.bool true) ∧ Below w.heap.size w w' := by
  have h1 : (dw == 0) = false := beq_eq_false_iff_ne.2 h
  have h2 : (dw != 0) = true := by rw [bne_iff_ne]; exact h
  go_enter Tryz.func22, Tryz.ntmps22
  go_wp2
  go_ret
  exact ⟨rfl, (Below.refl _ _).alloc (Nat.le_refl _) _⟩
set_option maxHeartbeats 1600000 in
set_option maxRecDepth 100000 in
theorem mnAt_ti (s ti rd off : Int) (dst : Bool) (S : ByteArray) (h : ti ≠ 0) (w : World) :
    Calls Tryz.prog 22 #[.agg #[.int .i64 1, .int .i64 s, .int .i64 0, .int .i64 0, .int .i64 0, .int .i64 0, .int .i64 0, .int .i64 0, .int .i64 ti, .int .i64 rd, .int .i64 off, .bool dst, .string S]] w fun e w' => e = .returned (.bool true) ∧ Below w.heap.size w w' := by
  have h1 : (ti == 0) = false := beq_eq_false_iff_ne.2 h
  have h2 : (ti != 0) = true := by rw [bne_iff_ne]; exact h
  go_enter Tryz.func22, Tryz.ntmps22
  go_wp2
  go_ret
  exact ⟨rfl, (Below.refl _ _).alloc (Nat.le_refl _) _⟩
set_option maxHeartbeats 1600000 in
set_option maxRecDepth 100000 in
theorem mnAt_rd (s rd off : Int) (dst : Bool) (S : ByteArray) (h : rd ≠ 0) (w : World) :
    Calls Tryz.prog 22 #[.agg #[.int .i64 1, .int .i64 s, .int .i64 0, .int .i64 0, .int .i64 0, .int .i64 0, .int .i64 0, .int .i64 0, .int .i64 0, .int .i64 rd, .int .i64 off, .bool dst, .string S]] w fun e w' => e = .returned (.bool true) ∧ Below w.heap.size w w' := by
  have h1 : (rd == 0) = false := beq_eq_false_iff_ne.2 h
  have h2 : (rd != 0) = true := by rw [bne_iff_ne]; exact h
  go_enter Tryz.func22, Tryz.ntmps22
  go_wp2
  go_ret
  exact ⟨rfl, (Below.refl _ _).alloc (Nat.le_refl _) _⟩
set_option maxHeartbeats 1600000 in
set_option maxRecDepth 100000 in
theorem mnAt_ok (s off : Int) (dst : Bool) (S : ByteArray) (w : World) :
    Calls Tryz.prog 22 #[.agg #[.int .i64 1, .int .i64 s, .int .i64 0, .int .i64 0, .int .i64 0, .int .i64 0, .int .i64 0, .int .i64 0, .int .i64 0, .int .i64 0, .int .i64 off, .bool dst, .string S]] w fun e w' => e = .returned (.bool false) ∧ Below w.heap.size w w' := by
  go_enter Tryz.func22, Tryz.ntmps22
  go_wp2
  go_ret
  exact ⟨rfl, (Below.refl _ _).alloc (Nat.le_refl _) _⟩
set_option maxHeartbeats 1600000 in
set_option maxRecDepth 100000 in
theorem mnKind (k s f t m dk dn dw ti rd off : Int) (dst : Bool) (S : ByteArray) (h1 : k ≠ 1) (h2 : k ≠ 2) (w : World) :
    Calls Tryz.prog 22 #[.agg #[.int .i64 k, .int .i64 s, .int .i64 f, .int .i64 t, .int .i64 m, .int .i64 dk, .int .i64 dn, .int .i64 dw, .int .i64 ti, .int .i64 rd, .int .i64 off, .bool dst, .string S]] w fun e w' => e = .returned (.bool true) ∧ Below w.heap.size w w' := by
  have e1 : (k == 1) = false := beq_eq_false_iff_ne.2 h1
  have e2 : (k == 2) = false := beq_eq_false_iff_ne.2 h2
  go_enter Tryz.func22, Tryz.ntmps22
  go_wp2
  go_ret
  exact ⟨rfl, (Below.refl _ _).alloc (Nat.le_refl _) _⟩
set_option maxHeartbeats 1600000 in
set_option maxRecDepth 100000 in
theorem mnRu_0 (s f t m dk dn dw ti rd off : Int) (dst : Bool) (S : ByteArray) (h : s ≠ 0) (w : World) (hK : Hid (KX w)) :
    Calls Tryz.prog 22 #[.agg #[.int .i64 2, .int .i64 s, .int .i64 f, .int .i64 t, .int .i64 m, .int .i64 dk, .int .i64 dn, .int .i64 dw, .int .i64 ti, .int .i64 rd, .int .i64 off, .bool dst, .string S]] w fun e w' => e = .returned (.bool true) ∧ Below w.heap.size w w' := by
  have h1 : (s != 0) = true := by rw [bne_iff_ne]; exact h
  go_enter Tryz.func22, Tryz.ntmps22
  go_wp2
  go_ret
  exact ⟨rfl, (Below.refl _ _).alloc (Nat.le_refl _) _⟩
set_option maxHeartbeats 1600000 in
set_option maxRecDepth 100000 in
theorem mnRu_1 (f t m dk dn dw ti rd off : Int) (dst : Bool) (S : ByteArray) (HY : Hid (∀ w, KX w → Calls Tryz.prog 42 #[.int .i64 f, .int .i64 t] w fun e w' => e = .returned (.bool false) ∧ Below w.heap.size w w')) (w : World) (hK : Hid (KX w)) :
    Calls Tryz.prog 22 #[.agg #[.int .i64 2, .int .i64 0, .int .i64 f, .int .i64 t, .int .i64 m, .int .i64 dk, .int .i64 dn, .int .i64 dw, .int .i64 ti, .int .i64 rd, .int .i64 off, .bool dst, .string S]] w fun e w' => e = .returned (.bool true) ∧ Below w.heap.size w w' := by
  go_enter Tryz.func22, Tryz.ntmps22
  have hM := hK
  go_wp2_with fail
  
  refine (HY.out _ (by first | exact kx_keep hM ((Below.refl w.heap.size w).alloc (Nat.le_refl _) _))).mono ?_
  rintro e V1 ⟨rfl, hb1⟩
  have B1 := Lib.hid (((Below.refl w.heap.size w).alloc (Nat.le_refl _) _).trans (hb1.mono (by first | assumption | (simp <;> omega) | (simp; done))))
  have A1 := Lib.hid (row_call hb1 (heap_alloc_new _ _))
  clear hb1
  have A1_0 : V1.cell? ⟨w.heap.size, 0, none⟩ = some (.int .i64 2) := cell_of_row _ _ _ _ _ _ A1.out
  have A1_1 : V1.cell? ⟨w.heap.size, 1, none⟩ = some (.int .i64 0) := cell_of_row _ _ _ _ _ _ A1.out
  have A1_2 : V1.cell? ⟨w.heap.size, 2, none⟩ = some (.int .i64 f) := cell_of_row _ _ _ _ _ _ A1.out
  have A1_3 : V1.cell? ⟨w.heap.size, 3, none⟩ = some (.int .i64 t) := cell_of_row _ _ _ _ _ _ A1.out
  have A1_4 : V1.cell? ⟨w.heap.size, 4, none⟩ = some (.int .i64 m) := cell_of_row _ _ _ _ _ _ A1.out
  have A1_5 : V1.cell? ⟨w.heap.size, 5, none⟩ = some (.int .i64 dk) := cell_of_row _ _ _ _ _ _ A1.out
  have A1_6 : V1.cell? ⟨w.heap.size, 6, none⟩ = some (.int .i64 dn) := cell_of_row _ _ _ _ _ _ A1.out
  have A1_7 : V1.cell? ⟨w.heap.size, 7, none⟩ = some (.int .i64 dw) := cell_of_row _ _ _ _ _ _ A1.out
  have A1_8 : V1.cell? ⟨w.heap.size, 8, none⟩ = some (.int .i64 ti) := cell_of_row _ _ _ _ _ _ A1.out
  have A1_9 : V1.cell? ⟨w.heap.size, 9, none⟩ = some (.int .i64 rd) := cell_of_row _ _ _ _ _ _ A1.out
  have A1_10 : V1.cell? ⟨w.heap.size, 10, none⟩ = some (.int .i64 off) := cell_of_row _ _ _ _ _ _ A1.out
  have A1_11 : V1.cell? ⟨w.heap.size, 11, none⟩ = some (.bool dst) := cell_of_row _ _ _ _ _ _ A1.out
  have A1_12 : V1.cell? ⟨w.heap.size, 12, none⟩ = some (.string S) := cell_of_row _ _ _ _ _ _ A1.out
  have zA1 := lt_of_heap A1.out
  go_simp
  go_wp2
  go_ret
  exact ⟨rfl, B1.out⟩
set_option maxHeartbeats 1600000 in
set_option maxRecDepth 100000 in
theorem mnRu_2 (f t m dk dn dw ti rd off : Int) (dst : Bool) (S : ByteArray) (HY : Hid (∀ w, KX w → Calls Tryz.prog 42 #[.int .i64 f, .int .i64 t] w fun e w' => e = .returned (.bool true) ∧ Below w.heap.size w w')) (HM : Hid (∀ w, KX w → Calls Tryz.prog 43 #[.int .i64 m, .int .i64 1, .int .i64 12] w fun e w' => e = .returned (.bool false) ∧ Below w.heap.size w w')) (w : World) (hK : Hid (KX w)) :
    Calls Tryz.prog 22 #[.agg #[.int .i64 2, .int .i64 0, .int .i64 f, .int .i64 t, .int .i64 m, .int .i64 dk, .int .i64 dn, .int .i64 dw, .int .i64 ti, .int .i64 rd, .int .i64 off, .bool dst, .string S]] w fun e w' => e = .returned (.bool true) ∧ Below w.heap.size w w' := by
  go_enter Tryz.func22, Tryz.ntmps22
  have hM := hK
  go_wp2_with fail
  
  refine (HY.out _ (by first | exact kx_keep hM ((Below.refl w.heap.size w).alloc (Nat.le_refl _) _))).mono ?_
  rintro e V1 ⟨rfl, hb1⟩
  have B1 := Lib.hid (((Below.refl w.heap.size w).alloc (Nat.le_refl _) _).trans (hb1.mono (by first | assumption | (simp <;> omega) | (simp; done))))
  have A1 := Lib.hid (row_call hb1 (heap_alloc_new _ _))
  clear hb1
  have A1_0 : V1.cell? ⟨w.heap.size, 0, none⟩ = some (.int .i64 2) := cell_of_row _ _ _ _ _ _ A1.out
  have A1_1 : V1.cell? ⟨w.heap.size, 1, none⟩ = some (.int .i64 0) := cell_of_row _ _ _ _ _ _ A1.out
  have A1_2 : V1.cell? ⟨w.heap.size, 2, none⟩ = some (.int .i64 f) := cell_of_row _ _ _ _ _ _ A1.out
  have A1_3 : V1.cell? ⟨w.heap.size, 3, none⟩ = some (.int .i64 t) := cell_of_row _ _ _ _ _ _ A1.out
  have A1_4 : V1.cell? ⟨w.heap.size, 4, none⟩ = some (.int .i64 m) := cell_of_row _ _ _ _ _ _ A1.out
  have A1_5 : V1.cell? ⟨w.heap.size, 5, none⟩ = some (.int .i64 dk) := cell_of_row _ _ _ _ _ _ A1.out
  have A1_6 : V1.cell? ⟨w.heap.size, 6, none⟩ = some (.int .i64 dn) := cell_of_row _ _ _ _ _ _ A1.out
  have A1_7 : V1.cell? ⟨w.heap.size, 7, none⟩ = some (.int .i64 dw) := cell_of_row _ _ _ _ _ _ A1.out
  have A1_8 : V1.cell? ⟨w.heap.size, 8, none⟩ = some (.int .i64 ti) := cell_of_row _ _ _ _ _ _ A1.out
  have A1_9 : V1.cell? ⟨w.heap.size, 9, none⟩ = some (.int .i64 rd) := cell_of_row _ _ _ _ _ _ A1.out
  have A1_10 : V1.cell? ⟨w.heap.size, 10, none⟩ = some (.int .i64 off) := cell_of_row _ _ _ _ _ _ A1.out
  have A1_11 : V1.cell? ⟨w.heap.size, 11, none⟩ = some (.bool dst) := cell_of_row _ _ _ _ _ _ A1.out
  have A1_12 : V1.cell? ⟨w.heap.size, 12, none⟩ = some (.string S) := cell_of_row _ _ _ _ _ _ A1.out
  have zA1 := lt_of_heap A1.out
  go_simp
  go_wp2_with fail
  refine (HM.out _ (by first | exact kx_keep hM (B1.out) | exact kx_keep hM ((B1.out).alloc (B1.out.size) _) | exact kx_keep hM (((B1.out).alloc (B1.out.size) _).alloc (by have := B1.out.size; simp <;> omega) _) | exact kx_keep hM ((((B1.out).alloc (B1.out.size) _).alloc (by have := B1.out.size; simp <;> omega) _).alloc (by have := B1.out.size; simp <;> omega) _))).mono ?_
  rintro e V2 ⟨rfl, hb2⟩
  clear A1_0 A1_1 A1_2 A1_3 A1_4 A1_5 A1_6 A1_7 A1_8 A1_9 A1_10 A1_11 A1_12 zA1
  have B2 : Hid (Below w.heap.size w V2) := by first | exact Lib.hid ((B1.out).trans (hb2.mono (by have := B1.out.size; first | assumption | (simp <;> omega) | (simp; done)))) | exact Lib.hid (((B1.out).alloc (B1.out.size) _).trans (hb2.mono (by have := B1.out.size; first | assumption | (simp <;> omega) | (simp; done)))) | exact Lib.hid ((((B1.out).alloc (B1.out.size) _).alloc (by have := B1.out.size; simp <;> omega) _).trans (hb2.mono (by have := B1.out.size; first | assumption | (simp <;> omega) | (simp; done)))) | exact Lib.hid (((((B1.out).alloc (B1.out.size) _).alloc (by have := B1.out.size; simp <;> omega) _).alloc (by have := B1.out.size; simp <;> omega) _).trans (hb2.mono (by have := B1.out.size; first | assumption | (simp <;> omega) | (simp; done))))
  first | replace A1 := Lib.hid (row_call hb2 A1.out) | replace A1 := Lib.hid (row_call hb2 (row_alloc A1.out _)) | replace A1 := Lib.hid (row_call hb2 (row_alloc (row_alloc A1.out _) _)) | replace A1 := Lib.hid (row_call hb2 (row_alloc (row_alloc (row_alloc A1.out _) _) _))
  clear hb2
  have A1_0 : V2.cell? ⟨w.heap.size, 0, none⟩ = some (.int .i64 2) := cell_of_row _ _ _ _ _ _ A1.out
  have A1_1 : V2.cell? ⟨w.heap.size, 1, none⟩ = some (.int .i64 0) := cell_of_row _ _ _ _ _ _ A1.out
  have A1_2 : V2.cell? ⟨w.heap.size, 2, none⟩ = some (.int .i64 f) := cell_of_row _ _ _ _ _ _ A1.out
  have A1_3 : V2.cell? ⟨w.heap.size, 3, none⟩ = some (.int .i64 t) := cell_of_row _ _ _ _ _ _ A1.out
  have A1_4 : V2.cell? ⟨w.heap.size, 4, none⟩ = some (.int .i64 m) := cell_of_row _ _ _ _ _ _ A1.out
  have A1_5 : V2.cell? ⟨w.heap.size, 5, none⟩ = some (.int .i64 dk) := cell_of_row _ _ _ _ _ _ A1.out
  have A1_6 : V2.cell? ⟨w.heap.size, 6, none⟩ = some (.int .i64 dn) := cell_of_row _ _ _ _ _ _ A1.out
  have A1_7 : V2.cell? ⟨w.heap.size, 7, none⟩ = some (.int .i64 dw) := cell_of_row _ _ _ _ _ _ A1.out
  have A1_8 : V2.cell? ⟨w.heap.size, 8, none⟩ = some (.int .i64 ti) := cell_of_row _ _ _ _ _ _ A1.out
  have A1_9 : V2.cell? ⟨w.heap.size, 9, none⟩ = some (.int .i64 rd) := cell_of_row _ _ _ _ _ _ A1.out
  have A1_10 : V2.cell? ⟨w.heap.size, 10, none⟩ = some (.int .i64 off) := cell_of_row _ _ _ _ _ _ A1.out
  have A1_11 : V2.cell? ⟨w.heap.size, 11, none⟩ = some (.bool dst) := cell_of_row _ _ _ _ _ _ A1.out
  have A1_12 : V2.cell? ⟨w.heap.size, 12, none⟩ = some (.string S) := cell_of_row _ _ _ _ _ _ A1.out
  have zA1 := lt_of_heap A1.out
  go_simp
  go_wp2
  go_ret
  exact ⟨rfl, B2.out⟩
set_option maxHeartbeats 1600000 in
set_option maxRecDepth 100000 in
theorem mnRu_3 (f t m dk dn dw ti rd off : Int) (dst : Bool) (S : ByteArray) (HY : Hid (∀ w, KX w → Calls Tryz.prog 42 #[.int .i64 f, .int .i64 t] w fun e w' => e = .returned (.bool true) ∧ Below w.heap.size w w')) (HM : Hid (∀ w, KX w → Calls Tryz.prog 43 #[.int .i64 m, .int .i64 1, .int .i64 12] w fun e w' => e = .returned (.bool true) ∧ Below w.heap.size w w')) (HD : Hid (∀ w, KX w → Calls Tryz.prog 44 #[.agg #[.int .i64 dk, .int .i64 dn, .int .i64 dw]] w fun e w' => e = .returned (.bool false) ∧ Below w.heap.size w w')) (w : World) (hK : Hid (KX w)) :
    Calls Tryz.prog 22 #[.agg #[.int .i64 2, .int .i64 0, .int .i64 f, .int .i64 t, .int .i64 m, .int .i64 dk, .int .i64 dn, .int .i64 dw, .int .i64 ti, .int .i64 rd, .int .i64 off, .bool dst, .string S]] w fun e w' => e = .returned (.bool true) ∧ Below w.heap.size w w' := by
  go_enter Tryz.func22, Tryz.ntmps22
  have hM := hK
  go_wp2_with fail
  
  refine (HY.out _ (by first | exact kx_keep hM ((Below.refl w.heap.size w).alloc (Nat.le_refl _) _))).mono ?_
  rintro e V1 ⟨rfl, hb1⟩
  have B1 := Lib.hid (((Below.refl w.heap.size w).alloc (Nat.le_refl _) _).trans (hb1.mono (by first | assumption | (simp <;> omega) | (simp; done))))
  have A1 := Lib.hid (row_call hb1 (heap_alloc_new _ _))
  clear hb1
  have A1_0 : V1.cell? ⟨w.heap.size, 0, none⟩ = some (.int .i64 2) := cell_of_row _ _ _ _ _ _ A1.out
  have A1_1 : V1.cell? ⟨w.heap.size, 1, none⟩ = some (.int .i64 0) := cell_of_row _ _ _ _ _ _ A1.out
  have A1_2 : V1.cell? ⟨w.heap.size, 2, none⟩ = some (.int .i64 f) := cell_of_row _ _ _ _ _ _ A1.out
  have A1_3 : V1.cell? ⟨w.heap.size, 3, none⟩ = some (.int .i64 t) := cell_of_row _ _ _ _ _ _ A1.out
  have A1_4 : V1.cell? ⟨w.heap.size, 4, none⟩ = some (.int .i64 m) := cell_of_row _ _ _ _ _ _ A1.out
  have A1_5 : V1.cell? ⟨w.heap.size, 5, none⟩ = some (.int .i64 dk) := cell_of_row _ _ _ _ _ _ A1.out
  have A1_6 : V1.cell? ⟨w.heap.size, 6, none⟩ = some (.int .i64 dn) := cell_of_row _ _ _ _ _ _ A1.out
  have A1_7 : V1.cell? ⟨w.heap.size, 7, none⟩ = some (.int .i64 dw) := cell_of_row _ _ _ _ _ _ A1.out
  have A1_8 : V1.cell? ⟨w.heap.size, 8, none⟩ = some (.int .i64 ti) := cell_of_row _ _ _ _ _ _ A1.out
  have A1_9 : V1.cell? ⟨w.heap.size, 9, none⟩ = some (.int .i64 rd) := cell_of_row _ _ _ _ _ _ A1.out
  have A1_10 : V1.cell? ⟨w.heap.size, 10, none⟩ = some (.int .i64 off) := cell_of_row _ _ _ _ _ _ A1.out
  have A1_11 : V1.cell? ⟨w.heap.size, 11, none⟩ = some (.bool dst) := cell_of_row _ _ _ _ _ _ A1.out
  have A1_12 : V1.cell? ⟨w.heap.size, 12, none⟩ = some (.string S) := cell_of_row _ _ _ _ _ _ A1.out
  have zA1 := lt_of_heap A1.out
  go_simp
  go_wp2_with fail
  refine (HM.out _ (by first | exact kx_keep hM (B1.out) | exact kx_keep hM ((B1.out).alloc (B1.out.size) _) | exact kx_keep hM (((B1.out).alloc (B1.out.size) _).alloc (by have := B1.out.size; simp <;> omega) _) | exact kx_keep hM ((((B1.out).alloc (B1.out.size) _).alloc (by have := B1.out.size; simp <;> omega) _).alloc (by have := B1.out.size; simp <;> omega) _))).mono ?_
  rintro e V2 ⟨rfl, hb2⟩
  clear A1_0 A1_1 A1_2 A1_3 A1_4 A1_5 A1_6 A1_7 A1_8 A1_9 A1_10 A1_11 A1_12 zA1
  have B2 : Hid (Below w.heap.size w V2) := by first | exact Lib.hid ((B1.out).trans (hb2.mono (by have := B1.out.size; first | assumption | (simp <;> omega) | (simp; done)))) | exact Lib.hid (((B1.out).alloc (B1.out.size) _).trans (hb2.mono (by have := B1.out.size; first | assumption | (simp <;> omega) | (simp; done)))) | exact Lib.hid ((((B1.out).alloc (B1.out.size) _).alloc (by have := B1.out.size; simp <;> omega) _).trans (hb2.mono (by have := B1.out.size; first | assumption | (simp <;> omega) | (simp; done)))) | exact Lib.hid (((((B1.out).alloc (B1.out.size) _).alloc (by have := B1.out.size; simp <;> omega) _).alloc (by have := B1.out.size; simp <;> omega) _).trans (hb2.mono (by have := B1.out.size; first | assumption | (simp <;> omega) | (simp; done))))
  first | replace A1 := Lib.hid (row_call hb2 A1.out) | replace A1 := Lib.hid (row_call hb2 (row_alloc A1.out _)) | replace A1 := Lib.hid (row_call hb2 (row_alloc (row_alloc A1.out _) _)) | replace A1 := Lib.hid (row_call hb2 (row_alloc (row_alloc (row_alloc A1.out _) _) _))
  clear hb2
  have A1_0 : V2.cell? ⟨w.heap.size, 0, none⟩ = some (.int .i64 2) := cell_of_row _ _ _ _ _ _ A1.out
  have A1_1 : V2.cell? ⟨w.heap.size, 1, none⟩ = some (.int .i64 0) := cell_of_row _ _ _ _ _ _ A1.out
  have A1_2 : V2.cell? ⟨w.heap.size, 2, none⟩ = some (.int .i64 f) := cell_of_row _ _ _ _ _ _ A1.out
  have A1_3 : V2.cell? ⟨w.heap.size, 3, none⟩ = some (.int .i64 t) := cell_of_row _ _ _ _ _ _ A1.out
  have A1_4 : V2.cell? ⟨w.heap.size, 4, none⟩ = some (.int .i64 m) := cell_of_row _ _ _ _ _ _ A1.out
  have A1_5 : V2.cell? ⟨w.heap.size, 5, none⟩ = some (.int .i64 dk) := cell_of_row _ _ _ _ _ _ A1.out
  have A1_6 : V2.cell? ⟨w.heap.size, 6, none⟩ = some (.int .i64 dn) := cell_of_row _ _ _ _ _ _ A1.out
  have A1_7 : V2.cell? ⟨w.heap.size, 7, none⟩ = some (.int .i64 dw) := cell_of_row _ _ _ _ _ _ A1.out
  have A1_8 : V2.cell? ⟨w.heap.size, 8, none⟩ = some (.int .i64 ti) := cell_of_row _ _ _ _ _ _ A1.out
  have A1_9 : V2.cell? ⟨w.heap.size, 9, none⟩ = some (.int .i64 rd) := cell_of_row _ _ _ _ _ _ A1.out
  have A1_10 : V2.cell? ⟨w.heap.size, 10, none⟩ = some (.int .i64 off) := cell_of_row _ _ _ _ _ _ A1.out
  have A1_11 : V2.cell? ⟨w.heap.size, 11, none⟩ = some (.bool dst) := cell_of_row _ _ _ _ _ _ A1.out
  have A1_12 : V2.cell? ⟨w.heap.size, 12, none⟩ = some (.string S) := cell_of_row _ _ _ _ _ _ A1.out
  have zA1 := lt_of_heap A1.out
  go_simp
  go_wp2_with fail
  refine (HD.out _ (by first | exact kx_keep hM (B2.out) | exact kx_keep hM ((B2.out).alloc (B2.out.size) _) | exact kx_keep hM (((B2.out).alloc (B2.out.size) _).alloc (by have := B2.out.size; simp <;> omega) _) | exact kx_keep hM ((((B2.out).alloc (B2.out.size) _).alloc (by have := B2.out.size; simp <;> omega) _).alloc (by have := B2.out.size; simp <;> omega) _))).mono ?_
  rintro e V3 ⟨rfl, hb3⟩
  clear A1_0 A1_1 A1_2 A1_3 A1_4 A1_5 A1_6 A1_7 A1_8 A1_9 A1_10 A1_11 A1_12 zA1
  have B3 : Hid (Below w.heap.size w V3) := by first | exact Lib.hid ((B2.out).trans (hb3.mono (by have := B2.out.size; first | assumption | (simp <;> omega) | (simp; done)))) | exact Lib.hid (((B2.out).alloc (B2.out.size) _).trans (hb3.mono (by have := B2.out.size; first | assumption | (simp <;> omega) | (simp; done)))) | exact Lib.hid ((((B2.out).alloc (B2.out.size) _).alloc (by have := B2.out.size; simp <;> omega) _).trans (hb3.mono (by have := B2.out.size; first | assumption | (simp <;> omega) | (simp; done)))) | exact Lib.hid (((((B2.out).alloc (B2.out.size) _).alloc (by have := B2.out.size; simp <;> omega) _).alloc (by have := B2.out.size; simp <;> omega) _).trans (hb3.mono (by have := B2.out.size; first | assumption | (simp <;> omega) | (simp; done))))
  first | replace A1 := Lib.hid (row_call hb3 A1.out) | replace A1 := Lib.hid (row_call hb3 (row_alloc A1.out _)) | replace A1 := Lib.hid (row_call hb3 (row_alloc (row_alloc A1.out _) _)) | replace A1 := Lib.hid (row_call hb3 (row_alloc (row_alloc (row_alloc A1.out _) _) _))
  clear hb3
  have A1_0 : V3.cell? ⟨w.heap.size, 0, none⟩ = some (.int .i64 2) := cell_of_row _ _ _ _ _ _ A1.out
  have A1_1 : V3.cell? ⟨w.heap.size, 1, none⟩ = some (.int .i64 0) := cell_of_row _ _ _ _ _ _ A1.out
  have A1_2 : V3.cell? ⟨w.heap.size, 2, none⟩ = some (.int .i64 f) := cell_of_row _ _ _ _ _ _ A1.out
  have A1_3 : V3.cell? ⟨w.heap.size, 3, none⟩ = some (.int .i64 t) := cell_of_row _ _ _ _ _ _ A1.out
  have A1_4 : V3.cell? ⟨w.heap.size, 4, none⟩ = some (.int .i64 m) := cell_of_row _ _ _ _ _ _ A1.out
  have A1_5 : V3.cell? ⟨w.heap.size, 5, none⟩ = some (.int .i64 dk) := cell_of_row _ _ _ _ _ _ A1.out
  have A1_6 : V3.cell? ⟨w.heap.size, 6, none⟩ = some (.int .i64 dn) := cell_of_row _ _ _ _ _ _ A1.out
  have A1_7 : V3.cell? ⟨w.heap.size, 7, none⟩ = some (.int .i64 dw) := cell_of_row _ _ _ _ _ _ A1.out
  have A1_8 : V3.cell? ⟨w.heap.size, 8, none⟩ = some (.int .i64 ti) := cell_of_row _ _ _ _ _ _ A1.out
  have A1_9 : V3.cell? ⟨w.heap.size, 9, none⟩ = some (.int .i64 rd) := cell_of_row _ _ _ _ _ _ A1.out
  have A1_10 : V3.cell? ⟨w.heap.size, 10, none⟩ = some (.int .i64 off) := cell_of_row _ _ _ _ _ _ A1.out
  have A1_11 : V3.cell? ⟨w.heap.size, 11, none⟩ = some (.bool dst) := cell_of_row _ _ _ _ _ _ A1.out
  have A1_12 : V3.cell? ⟨w.heap.size, 12, none⟩ = some (.string S) := cell_of_row _ _ _ _ _ _ A1.out
  have zA1 := lt_of_heap A1.out
  go_simp
  go_wp2
  go_ret
  exact ⟨rfl, B3.out⟩
set_option maxHeartbeats 1600000 in
set_option maxRecDepth 100000 in
theorem mnRu_4 (f t m dk dn dw ti rd off : Int) (dst : Bool) (S : ByteArray) (HY : Hid (∀ w, KX w → Calls Tryz.prog 42 #[.int .i64 f, .int .i64 t] w fun e w' => e = .returned (.bool true) ∧ Below w.heap.size w w')) (HM : Hid (∀ w, KX w → Calls Tryz.prog 43 #[.int .i64 m, .int .i64 1, .int .i64 12] w fun e w' => e = .returned (.bool true) ∧ Below w.heap.size w w')) (HD : Hid (∀ w, KX w → Calls Tryz.prog 44 #[.agg #[.int .i64 dk, .int .i64 dn, .int .i64 dw]] w fun e w' => e = .returned (.bool true) ∧ Below w.heap.size w w')) (HT : Hid (∀ w, KX w → Calls Tryz.prog 43 #[.int .i64 ti, .int .i64 0, .int .i64 86400] w fun e w' => e = .returned (.bool false) ∧ Below w.heap.size w w')) (w : World) (hK : Hid (KX w)) :
    Calls Tryz.prog 22 #[.agg #[.int .i64 2, .int .i64 0, .int .i64 f, .int .i64 t, .int .i64 m, .int .i64 dk, .int .i64 dn, .int .i64 dw, .int .i64 ti, .int .i64 rd, .int .i64 off, .bool dst, .string S]] w fun e w' => e = .returned (.bool true) ∧ Below w.heap.size w w' := by
  go_enter Tryz.func22, Tryz.ntmps22
  have hM := hK
  go_wp2_with fail
  
  refine (HY.out _ (by first | exact kx_keep hM ((Below.refl w.heap.size w).alloc (Nat.le_refl _) _))).mono ?_
  rintro e V1 ⟨rfl, hb1⟩
  have B1 := Lib.hid (((Below.refl w.heap.size w).alloc (Nat.le_refl _) _).trans (hb1.mono (by first | assumption | (simp <;> omega) | (simp; done))))
  have A1 := Lib.hid (row_call hb1 (heap_alloc_new _ _))
  clear hb1
  have A1_0 : V1.cell? ⟨w.heap.size, 0, none⟩ = some (.int .i64 2) := cell_of_row _ _ _ _ _ _ A1.out
  have A1_1 : V1.cell? ⟨w.heap.size, 1, none⟩ = some (.int .i64 0) := cell_of_row _ _ _ _ _ _ A1.out
  have A1_2 : V1.cell? ⟨w.heap.size, 2, none⟩ = some (.int .i64 f) := cell_of_row _ _ _ _ _ _ A1.out
  have A1_3 : V1.cell? ⟨w.heap.size, 3, none⟩ = some (.int .i64 t) := cell_of_row _ _ _ _ _ _ A1.out
  have A1_4 : V1.cell? ⟨w.heap.size, 4, none⟩ = some (.int .i64 m) := cell_of_row _ _ _ _ _ _ A1.out
  have A1_5 : V1.cell? ⟨w.heap.size, 5, none⟩ = some (.int .i64 dk) := cell_of_row _ _ _ _ _ _ A1.out
  have A1_6 : V1.cell? ⟨w.heap.size, 6, none⟩ = some (.int .i64 dn) := cell_of_row _ _ _ _ _ _ A1.out
  have A1_7 : V1.cell? ⟨w.heap.size, 7, none⟩ = some (.int .i64 dw) := cell_of_row _ _ _ _ _ _ A1.out
  have A1_8 : V1.cell? ⟨w.heap.size, 8, none⟩ = some (.int .i64 ti) := cell_of_row _ _ _ _ _ _ A1.out
  have A1_9 : V1.cell? ⟨w.heap.size, 9, none⟩ = some (.int .i64 rd) := cell_of_row _ _ _ _ _ _ A1.out
  have A1_10 : V1.cell? ⟨w.heap.size, 10, none⟩ = some (.int .i64 off) := cell_of_row _ _ _ _ _ _ A1.out
  have A1_11 : V1.cell? ⟨w.heap.size, 11, none⟩ = some (.bool dst) := cell_of_row _ _ _ _ _ _ A1.out
  have A1_12 : V1.cell? ⟨w.heap.size, 12, none⟩ = some (.string S) := cell_of_row _ _ _ _ _ _ A1.out
  have zA1 := lt_of_heap A1.out
  go_simp
  go_wp2_with fail
  refine (HM.out _ (by first | exact kx_keep hM (B1.out) | exact kx_keep hM ((B1.out).alloc (B1.out.size) _) | exact kx_keep hM (((B1.out).alloc (B1.out.size) _).alloc (by have := B1.out.size; simp <;> omega) _) | exact kx_keep hM ((((B1.out).alloc (B1.out.size) _).alloc (by have := B1.out.size; simp <;> omega) _).alloc (by have := B1.out.size; simp <;> omega) _))).mono ?_
  rintro e V2 ⟨rfl, hb2⟩
  clear A1_0 A1_1 A1_2 A1_3 A1_4 A1_5 A1_6 A1_7 A1_8 A1_9 A1_10 A1_11 A1_12 zA1
  have B2 : Hid (Below w.heap.size w V2) := by first | exact Lib.hid ((B1.out).trans (hb2.mono (by have := B1.out.size; first | assumption | (simp <;> omega) | (simp; done)))) | exact Lib.hid (((B1.out).alloc (B1.out.size) _).trans (hb2.mono (by have := B1.out.size; first | assumption | (simp <;> omega) | (simp; done)))) | exact Lib.hid ((((B1.out).alloc (B1.out.size) _).alloc (by have := B1.out.size; simp <;> omega) _).trans (hb2.mono (by have := B1.out.size; first | assumption | (simp <;> omega) | (simp; done)))) | exact Lib.hid (((((B1.out).alloc (B1.out.size) _).alloc (by have := B1.out.size; simp <;> omega) _).alloc (by have := B1.out.size; simp <;> omega) _).trans (hb2.mono (by have := B1.out.size; first | assumption | (simp <;> omega) | (simp; done))))
  first | replace A1 := Lib.hid (row_call hb2 A1.out) | replace A1 := Lib.hid (row_call hb2 (row_alloc A1.out _)) | replace A1 := Lib.hid (row_call hb2 (row_alloc (row_alloc A1.out _) _)) | replace A1 := Lib.hid (row_call hb2 (row_alloc (row_alloc (row_alloc A1.out _) _) _))
  clear hb2
  have A1_0 : V2.cell? ⟨w.heap.size, 0, none⟩ = some (.int .i64 2) := cell_of_row _ _ _ _ _ _ A1.out
  have A1_1 : V2.cell? ⟨w.heap.size, 1, none⟩ = some (.int .i64 0) := cell_of_row _ _ _ _ _ _ A1.out
  have A1_2 : V2.cell? ⟨w.heap.size, 2, none⟩ = some (.int .i64 f) := cell_of_row _ _ _ _ _ _ A1.out
  have A1_3 : V2.cell? ⟨w.heap.size, 3, none⟩ = some (.int .i64 t) := cell_of_row _ _ _ _ _ _ A1.out
  have A1_4 : V2.cell? ⟨w.heap.size, 4, none⟩ = some (.int .i64 m) := cell_of_row _ _ _ _ _ _ A1.out
  have A1_5 : V2.cell? ⟨w.heap.size, 5, none⟩ = some (.int .i64 dk) := cell_of_row _ _ _ _ _ _ A1.out
  have A1_6 : V2.cell? ⟨w.heap.size, 6, none⟩ = some (.int .i64 dn) := cell_of_row _ _ _ _ _ _ A1.out
  have A1_7 : V2.cell? ⟨w.heap.size, 7, none⟩ = some (.int .i64 dw) := cell_of_row _ _ _ _ _ _ A1.out
  have A1_8 : V2.cell? ⟨w.heap.size, 8, none⟩ = some (.int .i64 ti) := cell_of_row _ _ _ _ _ _ A1.out
  have A1_9 : V2.cell? ⟨w.heap.size, 9, none⟩ = some (.int .i64 rd) := cell_of_row _ _ _ _ _ _ A1.out
  have A1_10 : V2.cell? ⟨w.heap.size, 10, none⟩ = some (.int .i64 off) := cell_of_row _ _ _ _ _ _ A1.out
  have A1_11 : V2.cell? ⟨w.heap.size, 11, none⟩ = some (.bool dst) := cell_of_row _ _ _ _ _ _ A1.out
  have A1_12 : V2.cell? ⟨w.heap.size, 12, none⟩ = some (.string S) := cell_of_row _ _ _ _ _ _ A1.out
  have zA1 := lt_of_heap A1.out
  go_simp
  go_wp2_with fail
  refine (HD.out _ (by first | exact kx_keep hM (B2.out) | exact kx_keep hM ((B2.out).alloc (B2.out.size) _) | exact kx_keep hM (((B2.out).alloc (B2.out.size) _).alloc (by have := B2.out.size; simp <;> omega) _) | exact kx_keep hM ((((B2.out).alloc (B2.out.size) _).alloc (by have := B2.out.size; simp <;> omega) _).alloc (by have := B2.out.size; simp <;> omega) _))).mono ?_
  rintro e V3 ⟨rfl, hb3⟩
  clear A1_0 A1_1 A1_2 A1_3 A1_4 A1_5 A1_6 A1_7 A1_8 A1_9 A1_10 A1_11 A1_12 zA1
  have B3 : Hid (Below w.heap.size w V3) := by first | exact Lib.hid ((B2.out).trans (hb3.mono (by have := B2.out.size; first | assumption | (simp <;> omega) | (simp; done)))) | exact Lib.hid (((B2.out).alloc (B2.out.size) _).trans (hb3.mono (by have := B2.out.size; first | assumption | (simp <;> omega) | (simp; done)))) | exact Lib.hid ((((B2.out).alloc (B2.out.size) _).alloc (by have := B2.out.size; simp <;> omega) _).trans (hb3.mono (by have := B2.out.size; first | assumption | (simp <;> omega) | (simp; done)))) | exact Lib.hid (((((B2.out).alloc (B2.out.size) _).alloc (by have := B2.out.size; simp <;> omega) _).alloc (by have := B2.out.size; simp <;> omega) _).trans (hb3.mono (by have := B2.out.size; first | assumption | (simp <;> omega) | (simp; done))))
  first | replace A1 := Lib.hid (row_call hb3 A1.out) | replace A1 := Lib.hid (row_call hb3 (row_alloc A1.out _)) | replace A1 := Lib.hid (row_call hb3 (row_alloc (row_alloc A1.out _) _)) | replace A1 := Lib.hid (row_call hb3 (row_alloc (row_alloc (row_alloc A1.out _) _) _))
  clear hb3
  have A1_0 : V3.cell? ⟨w.heap.size, 0, none⟩ = some (.int .i64 2) := cell_of_row _ _ _ _ _ _ A1.out
  have A1_1 : V3.cell? ⟨w.heap.size, 1, none⟩ = some (.int .i64 0) := cell_of_row _ _ _ _ _ _ A1.out
  have A1_2 : V3.cell? ⟨w.heap.size, 2, none⟩ = some (.int .i64 f) := cell_of_row _ _ _ _ _ _ A1.out
  have A1_3 : V3.cell? ⟨w.heap.size, 3, none⟩ = some (.int .i64 t) := cell_of_row _ _ _ _ _ _ A1.out
  have A1_4 : V3.cell? ⟨w.heap.size, 4, none⟩ = some (.int .i64 m) := cell_of_row _ _ _ _ _ _ A1.out
  have A1_5 : V3.cell? ⟨w.heap.size, 5, none⟩ = some (.int .i64 dk) := cell_of_row _ _ _ _ _ _ A1.out
  have A1_6 : V3.cell? ⟨w.heap.size, 6, none⟩ = some (.int .i64 dn) := cell_of_row _ _ _ _ _ _ A1.out
  have A1_7 : V3.cell? ⟨w.heap.size, 7, none⟩ = some (.int .i64 dw) := cell_of_row _ _ _ _ _ _ A1.out
  have A1_8 : V3.cell? ⟨w.heap.size, 8, none⟩ = some (.int .i64 ti) := cell_of_row _ _ _ _ _ _ A1.out
  have A1_9 : V3.cell? ⟨w.heap.size, 9, none⟩ = some (.int .i64 rd) := cell_of_row _ _ _ _ _ _ A1.out
  have A1_10 : V3.cell? ⟨w.heap.size, 10, none⟩ = some (.int .i64 off) := cell_of_row _ _ _ _ _ _ A1.out
  have A1_11 : V3.cell? ⟨w.heap.size, 11, none⟩ = some (.bool dst) := cell_of_row _ _ _ _ _ _ A1.out
  have A1_12 : V3.cell? ⟨w.heap.size, 12, none⟩ = some (.string S) := cell_of_row _ _ _ _ _ _ A1.out
  have zA1 := lt_of_heap A1.out
  go_simp
  go_wp2_with fail
  refine (HT.out _ (by first | exact kx_keep hM (B3.out) | exact kx_keep hM ((B3.out).alloc (B3.out.size) _) | exact kx_keep hM (((B3.out).alloc (B3.out.size) _).alloc (by have := B3.out.size; simp <;> omega) _) | exact kx_keep hM ((((B3.out).alloc (B3.out.size) _).alloc (by have := B3.out.size; simp <;> omega) _).alloc (by have := B3.out.size; simp <;> omega) _))).mono ?_
  rintro e V4 ⟨rfl, hb4⟩
  clear A1_0 A1_1 A1_2 A1_3 A1_4 A1_5 A1_6 A1_7 A1_8 A1_9 A1_10 A1_11 A1_12 zA1
  have B4 : Hid (Below w.heap.size w V4) := by first | exact Lib.hid ((B3.out).trans (hb4.mono (by have := B3.out.size; first | assumption | (simp <;> omega) | (simp; done)))) | exact Lib.hid (((B3.out).alloc (B3.out.size) _).trans (hb4.mono (by have := B3.out.size; first | assumption | (simp <;> omega) | (simp; done)))) | exact Lib.hid ((((B3.out).alloc (B3.out.size) _).alloc (by have := B3.out.size; simp <;> omega) _).trans (hb4.mono (by have := B3.out.size; first | assumption | (simp <;> omega) | (simp; done)))) | exact Lib.hid (((((B3.out).alloc (B3.out.size) _).alloc (by have := B3.out.size; simp <;> omega) _).alloc (by have := B3.out.size; simp <;> omega) _).trans (hb4.mono (by have := B3.out.size; first | assumption | (simp <;> omega) | (simp; done))))
  first | replace A1 := Lib.hid (row_call hb4 A1.out) | replace A1 := Lib.hid (row_call hb4 (row_alloc A1.out _)) | replace A1 := Lib.hid (row_call hb4 (row_alloc (row_alloc A1.out _) _)) | replace A1 := Lib.hid (row_call hb4 (row_alloc (row_alloc (row_alloc A1.out _) _) _))
  clear hb4
  have A1_0 : V4.cell? ⟨w.heap.size, 0, none⟩ = some (.int .i64 2) := cell_of_row _ _ _ _ _ _ A1.out
  have A1_1 : V4.cell? ⟨w.heap.size, 1, none⟩ = some (.int .i64 0) := cell_of_row _ _ _ _ _ _ A1.out
  have A1_2 : V4.cell? ⟨w.heap.size, 2, none⟩ = some (.int .i64 f) := cell_of_row _ _ _ _ _ _ A1.out
  have A1_3 : V4.cell? ⟨w.heap.size, 3, none⟩ = some (.int .i64 t) := cell_of_row _ _ _ _ _ _ A1.out
  have A1_4 : V4.cell? ⟨w.heap.size, 4, none⟩ = some (.int .i64 m) := cell_of_row _ _ _ _ _ _ A1.out
  have A1_5 : V4.cell? ⟨w.heap.size, 5, none⟩ = some (.int .i64 dk) := cell_of_row _ _ _ _ _ _ A1.out
  have A1_6 : V4.cell? ⟨w.heap.size, 6, none⟩ = some (.int .i64 dn) := cell_of_row _ _ _ _ _ _ A1.out
  have A1_7 : V4.cell? ⟨w.heap.size, 7, none⟩ = some (.int .i64 dw) := cell_of_row _ _ _ _ _ _ A1.out
  have A1_8 : V4.cell? ⟨w.heap.size, 8, none⟩ = some (.int .i64 ti) := cell_of_row _ _ _ _ _ _ A1.out
  have A1_9 : V4.cell? ⟨w.heap.size, 9, none⟩ = some (.int .i64 rd) := cell_of_row _ _ _ _ _ _ A1.out
  have A1_10 : V4.cell? ⟨w.heap.size, 10, none⟩ = some (.int .i64 off) := cell_of_row _ _ _ _ _ _ A1.out
  have A1_11 : V4.cell? ⟨w.heap.size, 11, none⟩ = some (.bool dst) := cell_of_row _ _ _ _ _ _ A1.out
  have A1_12 : V4.cell? ⟨w.heap.size, 12, none⟩ = some (.string S) := cell_of_row _ _ _ _ _ _ A1.out
  have zA1 := lt_of_heap A1.out
  go_simp
  go_wp2
  go_ret
  exact ⟨rfl, B4.out⟩
set_option maxHeartbeats 1600000 in
set_option maxRecDepth 100000 in
theorem mnRu_5 (f t m dk dn dw ti rd off : Int) (dst : Bool) (S : ByteArray) (HY : Hid (∀ w, KX w → Calls Tryz.prog 42 #[.int .i64 f, .int .i64 t] w fun e w' => e = .returned (.bool true) ∧ Below w.heap.size w w')) (HM : Hid (∀ w, KX w → Calls Tryz.prog 43 #[.int .i64 m, .int .i64 1, .int .i64 12] w fun e w' => e = .returned (.bool true) ∧ Below w.heap.size w w')) (HD : Hid (∀ w, KX w → Calls Tryz.prog 44 #[.agg #[.int .i64 dk, .int .i64 dn, .int .i64 dw]] w fun e w' => e = .returned (.bool true) ∧ Below w.heap.size w w')) (HT : Hid (∀ w, KX w → Calls Tryz.prog 43 #[.int .i64 ti, .int .i64 0, .int .i64 86400] w fun e w' => e = .returned (.bool true) ∧ Below w.heap.size w w')) (HO : Hid (∀ w, KX w → Calls Tryz.prog 45 #[.int .i64 rd] w fun e w' => e = .returned (.bool false) ∧ Below w.heap.size w w')) (w : World) (hK : Hid (KX w)) :
    Calls Tryz.prog 22 #[.agg #[.int .i64 2, .int .i64 0, .int .i64 f, .int .i64 t, .int .i64 m, .int .i64 dk, .int .i64 dn, .int .i64 dw, .int .i64 ti, .int .i64 rd, .int .i64 off, .bool dst, .string S]] w fun e w' => e = .returned (.bool true) ∧ Below w.heap.size w w' := by
  go_enter Tryz.func22, Tryz.ntmps22
  have hM := hK
  go_wp2_with fail
  
  refine (HY.out _ (by first | exact kx_keep hM ((Below.refl w.heap.size w).alloc (Nat.le_refl _) _))).mono ?_
  rintro e V1 ⟨rfl, hb1⟩
  have B1 := Lib.hid (((Below.refl w.heap.size w).alloc (Nat.le_refl _) _).trans (hb1.mono (by first | assumption | (simp <;> omega) | (simp; done))))
  have A1 := Lib.hid (row_call hb1 (heap_alloc_new _ _))
  clear hb1
  have A1_0 : V1.cell? ⟨w.heap.size, 0, none⟩ = some (.int .i64 2) := cell_of_row _ _ _ _ _ _ A1.out
  have A1_1 : V1.cell? ⟨w.heap.size, 1, none⟩ = some (.int .i64 0) := cell_of_row _ _ _ _ _ _ A1.out
  have A1_2 : V1.cell? ⟨w.heap.size, 2, none⟩ = some (.int .i64 f) := cell_of_row _ _ _ _ _ _ A1.out
  have A1_3 : V1.cell? ⟨w.heap.size, 3, none⟩ = some (.int .i64 t) := cell_of_row _ _ _ _ _ _ A1.out
  have A1_4 : V1.cell? ⟨w.heap.size, 4, none⟩ = some (.int .i64 m) := cell_of_row _ _ _ _ _ _ A1.out
  have A1_5 : V1.cell? ⟨w.heap.size, 5, none⟩ = some (.int .i64 dk) := cell_of_row _ _ _ _ _ _ A1.out
  have A1_6 : V1.cell? ⟨w.heap.size, 6, none⟩ = some (.int .i64 dn) := cell_of_row _ _ _ _ _ _ A1.out
  have A1_7 : V1.cell? ⟨w.heap.size, 7, none⟩ = some (.int .i64 dw) := cell_of_row _ _ _ _ _ _ A1.out
  have A1_8 : V1.cell? ⟨w.heap.size, 8, none⟩ = some (.int .i64 ti) := cell_of_row _ _ _ _ _ _ A1.out
  have A1_9 : V1.cell? ⟨w.heap.size, 9, none⟩ = some (.int .i64 rd) := cell_of_row _ _ _ _ _ _ A1.out
  have A1_10 : V1.cell? ⟨w.heap.size, 10, none⟩ = some (.int .i64 off) := cell_of_row _ _ _ _ _ _ A1.out
  have A1_11 : V1.cell? ⟨w.heap.size, 11, none⟩ = some (.bool dst) := cell_of_row _ _ _ _ _ _ A1.out
  have A1_12 : V1.cell? ⟨w.heap.size, 12, none⟩ = some (.string S) := cell_of_row _ _ _ _ _ _ A1.out
  have zA1 := lt_of_heap A1.out
  go_simp
  go_wp2_with fail
  refine (HM.out _ (by first | exact kx_keep hM (B1.out) | exact kx_keep hM ((B1.out).alloc (B1.out.size) _) | exact kx_keep hM (((B1.out).alloc (B1.out.size) _).alloc (by have := B1.out.size; simp <;> omega) _) | exact kx_keep hM ((((B1.out).alloc (B1.out.size) _).alloc (by have := B1.out.size; simp <;> omega) _).alloc (by have := B1.out.size; simp <;> omega) _))).mono ?_
  rintro e V2 ⟨rfl, hb2⟩
  clear A1_0 A1_1 A1_2 A1_3 A1_4 A1_5 A1_6 A1_7 A1_8 A1_9 A1_10 A1_11 A1_12 zA1
  have B2 : Hid (Below w.heap.size w V2) := by first | exact Lib.hid ((B1.out).trans (hb2.mono (by have := B1.out.size; first | assumption | (simp <;> omega) | (simp; done)))) | exact Lib.hid (((B1.out).alloc (B1.out.size) _).trans (hb2.mono (by have := B1.out.size; first | assumption | (simp <;> omega) | (simp; done)))) | exact Lib.hid ((((B1.out).alloc (B1.out.size) _).alloc (by have := B1.out.size; simp <;> omega) _).trans (hb2.mono (by have := B1.out.size; first | assumption | (simp <;> omega) | (simp; done)))) | exact Lib.hid (((((B1.out).alloc (B1.out.size) _).alloc (by have := B1.out.size; simp <;> omega) _).alloc (by have := B1.out.size; simp <;> omega) _).trans (hb2.mono (by have := B1.out.size; first | assumption | (simp <;> omega) | (simp; done))))
  first | replace A1 := Lib.hid (row_call hb2 A1.out) | replace A1 := Lib.hid (row_call hb2 (row_alloc A1.out _)) | replace A1 := Lib.hid (row_call hb2 (row_alloc (row_alloc A1.out _) _)) | replace A1 := Lib.hid (row_call hb2 (row_alloc (row_alloc (row_alloc A1.out _) _) _))
  clear hb2
  have A1_0 : V2.cell? ⟨w.heap.size, 0, none⟩ = some (.int .i64 2) := cell_of_row _ _ _ _ _ _ A1.out
  have A1_1 : V2.cell? ⟨w.heap.size, 1, none⟩ = some (.int .i64 0) := cell_of_row _ _ _ _ _ _ A1.out
  have A1_2 : V2.cell? ⟨w.heap.size, 2, none⟩ = some (.int .i64 f) := cell_of_row _ _ _ _ _ _ A1.out
  have A1_3 : V2.cell? ⟨w.heap.size, 3, none⟩ = some (.int .i64 t) := cell_of_row _ _ _ _ _ _ A1.out
  have A1_4 : V2.cell? ⟨w.heap.size, 4, none⟩ = some (.int .i64 m) := cell_of_row _ _ _ _ _ _ A1.out
  have A1_5 : V2.cell? ⟨w.heap.size, 5, none⟩ = some (.int .i64 dk) := cell_of_row _ _ _ _ _ _ A1.out
  have A1_6 : V2.cell? ⟨w.heap.size, 6, none⟩ = some (.int .i64 dn) := cell_of_row _ _ _ _ _ _ A1.out
  have A1_7 : V2.cell? ⟨w.heap.size, 7, none⟩ = some (.int .i64 dw) := cell_of_row _ _ _ _ _ _ A1.out
  have A1_8 : V2.cell? ⟨w.heap.size, 8, none⟩ = some (.int .i64 ti) := cell_of_row _ _ _ _ _ _ A1.out
  have A1_9 : V2.cell? ⟨w.heap.size, 9, none⟩ = some (.int .i64 rd) := cell_of_row _ _ _ _ _ _ A1.out
  have A1_10 : V2.cell? ⟨w.heap.size, 10, none⟩ = some (.int .i64 off) := cell_of_row _ _ _ _ _ _ A1.out
  have A1_11 : V2.cell? ⟨w.heap.size, 11, none⟩ = some (.bool dst) := cell_of_row _ _ _ _ _ _ A1.out
  have A1_12 : V2.cell? ⟨w.heap.size, 12, none⟩ = some (.string S) := cell_of_row _ _ _ _ _ _ A1.out
  have zA1 := lt_of_heap A1.out
  go_simp
  go_wp2_with fail
  refine (HD.out _ (by first | exact kx_keep hM (B2.out) | exact kx_keep hM ((B2.out).alloc (B2.out.size) _) | exact kx_keep hM (((B2.out).alloc (B2.out.size) _).alloc (by have := B2.out.size; simp <;> omega) _) | exact kx_keep hM ((((B2.out).alloc (B2.out.size) _).alloc (by have := B2.out.size; simp <;> omega) _).alloc (by have := B2.out.size; simp <;> omega) _))).mono ?_
  rintro e V3 ⟨rfl, hb3⟩
  clear A1_0 A1_1 A1_2 A1_3 A1_4 A1_5 A1_6 A1_7 A1_8 A1_9 A1_10 A1_11 A1_12 zA1
  have B3 : Hid (Below w.heap.size w V3) := by first | exact Lib.hid ((B2.out).trans (hb3.mono (by have := B2.out.size; first | assumption | (simp <;> omega) | (simp; done)))) | exact Lib.hid (((B2.out).alloc (B2.out.size) _).trans (hb3.mono (by have := B2.out.size; first | assumption | (simp <;> omega) | (simp; done)))) | exact Lib.hid ((((B2.out).alloc (B2.out.size) _).alloc (by have := B2.out.size; simp <;> omega) _).trans (hb3.mono (by have := B2.out.size; first | assumption | (simp <;> omega) | (simp; done)))) | exact Lib.hid (((((B2.out).alloc (B2.out.size) _).alloc (by have := B2.out.size; simp <;> omega) _).alloc (by have := B2.out.size; simp <;> omega) _).trans (hb3.mono (by have := B2.out.size; first | assumption | (simp <;> omega) | (simp; done))))
  first | replace A1 := Lib.hid (row_call hb3 A1.out) | replace A1 := Lib.hid (row_call hb3 (row_alloc A1.out _)) | replace A1 := Lib.hid (row_call hb3 (row_alloc (row_alloc A1.out _) _)) | replace A1 := Lib.hid (row_call hb3 (row_alloc (row_alloc (row_alloc A1.out _) _) _))
  clear hb3
  have A1_0 : V3.cell? ⟨w.heap.size, 0, none⟩ = some (.int .i64 2) := cell_of_row _ _ _ _ _ _ A1.out
  have A1_1 : V3.cell? ⟨w.heap.size, 1, none⟩ = some (.int .i64 0) := cell_of_row _ _ _ _ _ _ A1.out
  have A1_2 : V3.cell? ⟨w.heap.size, 2, none⟩ = some (.int .i64 f) := cell_of_row _ _ _ _ _ _ A1.out
  have A1_3 : V3.cell? ⟨w.heap.size, 3, none⟩ = some (.int .i64 t) := cell_of_row _ _ _ _ _ _ A1.out
  have A1_4 : V3.cell? ⟨w.heap.size, 4, none⟩ = some (.int .i64 m) := cell_of_row _ _ _ _ _ _ A1.out
  have A1_5 : V3.cell? ⟨w.heap.size, 5, none⟩ = some (.int .i64 dk) := cell_of_row _ _ _ _ _ _ A1.out
  have A1_6 : V3.cell? ⟨w.heap.size, 6, none⟩ = some (.int .i64 dn) := cell_of_row _ _ _ _ _ _ A1.out
  have A1_7 : V3.cell? ⟨w.heap.size, 7, none⟩ = some (.int .i64 dw) := cell_of_row _ _ _ _ _ _ A1.out
  have A1_8 : V3.cell? ⟨w.heap.size, 8, none⟩ = some (.int .i64 ti) := cell_of_row _ _ _ _ _ _ A1.out
  have A1_9 : V3.cell? ⟨w.heap.size, 9, none⟩ = some (.int .i64 rd) := cell_of_row _ _ _ _ _ _ A1.out
  have A1_10 : V3.cell? ⟨w.heap.size, 10, none⟩ = some (.int .i64 off) := cell_of_row _ _ _ _ _ _ A1.out
  have A1_11 : V3.cell? ⟨w.heap.size, 11, none⟩ = some (.bool dst) := cell_of_row _ _ _ _ _ _ A1.out
  have A1_12 : V3.cell? ⟨w.heap.size, 12, none⟩ = some (.string S) := cell_of_row _ _ _ _ _ _ A1.out
  have zA1 := lt_of_heap A1.out
  go_simp
  go_wp2_with fail
  refine (HT.out _ (by first | exact kx_keep hM (B3.out) | exact kx_keep hM ((B3.out).alloc (B3.out.size) _) | exact kx_keep hM (((B3.out).alloc (B3.out.size) _).alloc (by have := B3.out.size; simp <;> omega) _) | exact kx_keep hM ((((B3.out).alloc (B3.out.size) _).alloc (by have := B3.out.size; simp <;> omega) _).alloc (by have := B3.out.size; simp <;> omega) _))).mono ?_
  rintro e V4 ⟨rfl, hb4⟩
  clear A1_0 A1_1 A1_2 A1_3 A1_4 A1_5 A1_6 A1_7 A1_8 A1_9 A1_10 A1_11 A1_12 zA1
  have B4 : Hid (Below w.heap.size w V4) := by first | exact Lib.hid ((B3.out).trans (hb4.mono (by have := B3.out.size; first | assumption | (simp <;> omega) | (simp; done)))) | exact Lib.hid (((B3.out).alloc (B3.out.size) _).trans (hb4.mono (by have := B3.out.size; first | assumption | (simp <;> omega) | (simp; done)))) | exact Lib.hid ((((B3.out).alloc (B3.out.size) _).alloc (by have := B3.out.size; simp <;> omega) _).trans (hb4.mono (by have := B3.out.size; first | assumption | (simp <;> omega) | (simp; done)))) | exact Lib.hid (((((B3.out).alloc (B3.out.size) _).alloc (by have := B3.out.size; simp <;> omega) _).alloc (by have := B3.out.size; simp <;> omega) _).trans (hb4.mono (by have := B3.out.size; first | assumption | (simp <;> omega) | (simp; done))))
  first | replace A1 := Lib.hid (row_call hb4 A1.out) | replace A1 := Lib.hid (row_call hb4 (row_alloc A1.out _)) | replace A1 := Lib.hid (row_call hb4 (row_alloc (row_alloc A1.out _) _)) | replace A1 := Lib.hid (row_call hb4 (row_alloc (row_alloc (row_alloc A1.out _) _) _))
  clear hb4
  have A1_0 : V4.cell? ⟨w.heap.size, 0, none⟩ = some (.int .i64 2) := cell_of_row _ _ _ _ _ _ A1.out
  have A1_1 : V4.cell? ⟨w.heap.size, 1, none⟩ = some (.int .i64 0) := cell_of_row _ _ _ _ _ _ A1.out
  have A1_2 : V4.cell? ⟨w.heap.size, 2, none⟩ = some (.int .i64 f) := cell_of_row _ _ _ _ _ _ A1.out
  have A1_3 : V4.cell? ⟨w.heap.size, 3, none⟩ = some (.int .i64 t) := cell_of_row _ _ _ _ _ _ A1.out
  have A1_4 : V4.cell? ⟨w.heap.size, 4, none⟩ = some (.int .i64 m) := cell_of_row _ _ _ _ _ _ A1.out
  have A1_5 : V4.cell? ⟨w.heap.size, 5, none⟩ = some (.int .i64 dk) := cell_of_row _ _ _ _ _ _ A1.out
  have A1_6 : V4.cell? ⟨w.heap.size, 6, none⟩ = some (.int .i64 dn) := cell_of_row _ _ _ _ _ _ A1.out
  have A1_7 : V4.cell? ⟨w.heap.size, 7, none⟩ = some (.int .i64 dw) := cell_of_row _ _ _ _ _ _ A1.out
  have A1_8 : V4.cell? ⟨w.heap.size, 8, none⟩ = some (.int .i64 ti) := cell_of_row _ _ _ _ _ _ A1.out
  have A1_9 : V4.cell? ⟨w.heap.size, 9, none⟩ = some (.int .i64 rd) := cell_of_row _ _ _ _ _ _ A1.out
  have A1_10 : V4.cell? ⟨w.heap.size, 10, none⟩ = some (.int .i64 off) := cell_of_row _ _ _ _ _ _ A1.out
  have A1_11 : V4.cell? ⟨w.heap.size, 11, none⟩ = some (.bool dst) := cell_of_row _ _ _ _ _ _ A1.out
  have A1_12 : V4.cell? ⟨w.heap.size, 12, none⟩ = some (.string S) := cell_of_row _ _ _ _ _ _ A1.out
  have zA1 := lt_of_heap A1.out
  go_simp
  go_wp2_with fail
  refine (HO.out _ (by first | exact kx_keep hM (B4.out) | exact kx_keep hM ((B4.out).alloc (B4.out.size) _) | exact kx_keep hM (((B4.out).alloc (B4.out.size) _).alloc (by have := B4.out.size; simp <;> omega) _) | exact kx_keep hM ((((B4.out).alloc (B4.out.size) _).alloc (by have := B4.out.size; simp <;> omega) _).alloc (by have := B4.out.size; simp <;> omega) _))).mono ?_
  rintro e V5 ⟨rfl, hb5⟩
  clear A1_0 A1_1 A1_2 A1_3 A1_4 A1_5 A1_6 A1_7 A1_8 A1_9 A1_10 A1_11 A1_12 zA1
  have B5 : Hid (Below w.heap.size w V5) := by first | exact Lib.hid ((B4.out).trans (hb5.mono (by have := B4.out.size; first | assumption | (simp <;> omega) | (simp; done)))) | exact Lib.hid (((B4.out).alloc (B4.out.size) _).trans (hb5.mono (by have := B4.out.size; first | assumption | (simp <;> omega) | (simp; done)))) | exact Lib.hid ((((B4.out).alloc (B4.out.size) _).alloc (by have := B4.out.size; simp <;> omega) _).trans (hb5.mono (by have := B4.out.size; first | assumption | (simp <;> omega) | (simp; done)))) | exact Lib.hid (((((B4.out).alloc (B4.out.size) _).alloc (by have := B4.out.size; simp <;> omega) _).alloc (by have := B4.out.size; simp <;> omega) _).trans (hb5.mono (by have := B4.out.size; first | assumption | (simp <;> omega) | (simp; done))))
  first | replace A1 := Lib.hid (row_call hb5 A1.out) | replace A1 := Lib.hid (row_call hb5 (row_alloc A1.out _)) | replace A1 := Lib.hid (row_call hb5 (row_alloc (row_alloc A1.out _) _)) | replace A1 := Lib.hid (row_call hb5 (row_alloc (row_alloc (row_alloc A1.out _) _) _))
  clear hb5
  have A1_0 : V5.cell? ⟨w.heap.size, 0, none⟩ = some (.int .i64 2) := cell_of_row _ _ _ _ _ _ A1.out
  have A1_1 : V5.cell? ⟨w.heap.size, 1, none⟩ = some (.int .i64 0) := cell_of_row _ _ _ _ _ _ A1.out
  have A1_2 : V5.cell? ⟨w.heap.size, 2, none⟩ = some (.int .i64 f) := cell_of_row _ _ _ _ _ _ A1.out
  have A1_3 : V5.cell? ⟨w.heap.size, 3, none⟩ = some (.int .i64 t) := cell_of_row _ _ _ _ _ _ A1.out
  have A1_4 : V5.cell? ⟨w.heap.size, 4, none⟩ = some (.int .i64 m) := cell_of_row _ _ _ _ _ _ A1.out
  have A1_5 : V5.cell? ⟨w.heap.size, 5, none⟩ = some (.int .i64 dk) := cell_of_row _ _ _ _ _ _ A1.out
  have A1_6 : V5.cell? ⟨w.heap.size, 6, none⟩ = some (.int .i64 dn) := cell_of_row _ _ _ _ _ _ A1.out
  have A1_7 : V5.cell? ⟨w.heap.size, 7, none⟩ = some (.int .i64 dw) := cell_of_row _ _ _ _ _ _ A1.out
  have A1_8 : V5.cell? ⟨w.heap.size, 8, none⟩ = some (.int .i64 ti) := cell_of_row _ _ _ _ _ _ A1.out
  have A1_9 : V5.cell? ⟨w.heap.size, 9, none⟩ = some (.int .i64 rd) := cell_of_row _ _ _ _ _ _ A1.out
  have A1_10 : V5.cell? ⟨w.heap.size, 10, none⟩ = some (.int .i64 off) := cell_of_row _ _ _ _ _ _ A1.out
  have A1_11 : V5.cell? ⟨w.heap.size, 11, none⟩ = some (.bool dst) := cell_of_row _ _ _ _ _ _ A1.out
  have A1_12 : V5.cell? ⟨w.heap.size, 12, none⟩ = some (.string S) := cell_of_row _ _ _ _ _ _ A1.out
  have zA1 := lt_of_heap A1.out
  go_simp
  go_wp2
  go_ret
  exact ⟨rfl, B5.out⟩
set_option maxHeartbeats 1600000 in
set_option maxRecDepth 100000 in
theorem mnRu_6 (f t m dk dn dw ti rd off : Int) (dst : Bool) (S : ByteArray) (HY : Hid (∀ w, KX w → Calls Tryz.prog 42 #[.int .i64 f, .int .i64 t] w fun e w' => e = .returned (.bool true) ∧ Below w.heap.size w w')) (HM : Hid (∀ w, KX w → Calls Tryz.prog 43 #[.int .i64 m, .int .i64 1, .int .i64 12] w fun e w' => e = .returned (.bool true) ∧ Below w.heap.size w w')) (HD : Hid (∀ w, KX w → Calls Tryz.prog 44 #[.agg #[.int .i64 dk, .int .i64 dn, .int .i64 dw]] w fun e w' => e = .returned (.bool true) ∧ Below w.heap.size w w')) (HT : Hid (∀ w, KX w → Calls Tryz.prog 43 #[.int .i64 ti, .int .i64 0, .int .i64 86400] w fun e w' => e = .returned (.bool true) ∧ Below w.heap.size w w')) (HO : Hid (∀ w, KX w → Calls Tryz.prog 45 #[.int .i64 rd] w fun e w' => e = .returned (.bool true) ∧ Below w.heap.size w w')) (w : World) (hK : Hid (KX w)) :
    Calls Tryz.prog 22 #[.agg #[.int .i64 2, .int .i64 0, .int .i64 f, .int .i64 t, .int .i64 m, .int .i64 dk, .int .i64 dn, .int .i64 dw, .int .i64 ti, .int .i64 rd, .int .i64 off, .bool dst, .string S]] w fun e w' => e = .returned (.bool false) ∧ Below w.heap.size w w' := by
  go_enter Tryz.func22, Tryz.ntmps22
  have hM := hK
  go_wp2_with fail
  
  refine (HY.out _ (by first | exact kx_keep hM ((Below.refl w.heap.size w).alloc (Nat.le_refl _) _))).mono ?_
  rintro e V1 ⟨rfl, hb1⟩
  have B1 := Lib.hid (((Below.refl w.heap.size w).alloc (Nat.le_refl _) _).trans (hb1.mono (by first | assumption | (simp <;> omega) | (simp; done))))
  have A1 := Lib.hid (row_call hb1 (heap_alloc_new _ _))
  clear hb1
  have A1_0 : V1.cell? ⟨w.heap.size, 0, none⟩ = some (.int .i64 2) := cell_of_row _ _ _ _ _ _ A1.out
  have A1_1 : V1.cell? ⟨w.heap.size, 1, none⟩ = some (.int .i64 0) := cell_of_row _ _ _ _ _ _ A1.out
  have A1_2 : V1.cell? ⟨w.heap.size, 2, none⟩ = some (.int .i64 f) := cell_of_row _ _ _ _ _ _ A1.out
  have A1_3 : V1.cell? ⟨w.heap.size, 3, none⟩ = some (.int .i64 t) := cell_of_row _ _ _ _ _ _ A1.out
  have A1_4 : V1.cell? ⟨w.heap.size, 4, none⟩ = some (.int .i64 m) := cell_of_row _ _ _ _ _ _ A1.out
  have A1_5 : V1.cell? ⟨w.heap.size, 5, none⟩ = some (.int .i64 dk) := cell_of_row _ _ _ _ _ _ A1.out
  have A1_6 : V1.cell? ⟨w.heap.size, 6, none⟩ = some (.int .i64 dn) := cell_of_row _ _ _ _ _ _ A1.out
  have A1_7 : V1.cell? ⟨w.heap.size, 7, none⟩ = some (.int .i64 dw) := cell_of_row _ _ _ _ _ _ A1.out
  have A1_8 : V1.cell? ⟨w.heap.size, 8, none⟩ = some (.int .i64 ti) := cell_of_row _ _ _ _ _ _ A1.out
  have A1_9 : V1.cell? ⟨w.heap.size, 9, none⟩ = some (.int .i64 rd) := cell_of_row _ _ _ _ _ _ A1.out
  have A1_10 : V1.cell? ⟨w.heap.size, 10, none⟩ = some (.int .i64 off) := cell_of_row _ _ _ _ _ _ A1.out
  have A1_11 : V1.cell? ⟨w.heap.size, 11, none⟩ = some (.bool dst) := cell_of_row _ _ _ _ _ _ A1.out
  have A1_12 : V1.cell? ⟨w.heap.size, 12, none⟩ = some (.string S) := cell_of_row _ _ _ _ _ _ A1.out
  have zA1 := lt_of_heap A1.out
  go_simp
  go_wp2_with fail
  refine (HM.out _ (by first | exact kx_keep hM (B1.out) | exact kx_keep hM ((B1.out).alloc (B1.out.size) _) | exact kx_keep hM (((B1.out).alloc (B1.out.size) _).alloc (by have := B1.out.size; simp <;> omega) _) | exact kx_keep hM ((((B1.out).alloc (B1.out.size) _).alloc (by have := B1.out.size; simp <;> omega) _).alloc (by have := B1.out.size; simp <;> omega) _))).mono ?_
  rintro e V2 ⟨rfl, hb2⟩
  clear A1_0 A1_1 A1_2 A1_3 A1_4 A1_5 A1_6 A1_7 A1_8 A1_9 A1_10 A1_11 A1_12 zA1
  have B2 : Hid (Below w.heap.size w V2) := by first | exact Lib.hid ((B1.out).trans (hb2.mono (by have := B1.out.size; first | assumption | (simp <;> omega) | (simp; done)))) | exact Lib.hid (((B1.out).alloc (B1.out.size) _).trans (hb2.mono (by have := B1.out.size; first | assumption | (simp <;> omega) | (simp; done)))) | exact Lib.hid ((((B1.out).alloc (B1.out.size) _).alloc (by have := B1.out.size; simp <;> omega) _).trans (hb2.mono (by have := B1.out.size; first | assumption | (simp <;> omega) | (simp; done)))) | exact Lib.hid (((((B1.out).alloc (B1.out.size) _).alloc (by have := B1.out.size; simp <;> omega) _).alloc (by have := B1.out.size; simp <;> omega) _).trans (hb2.mono (by have := B1.out.size; first | assumption | (simp <;> omega) | (simp; done))))
  first | replace A1 := Lib.hid (row_call hb2 A1.out) | replace A1 := Lib.hid (row_call hb2 (row_alloc A1.out _)) | replace A1 := Lib.hid (row_call hb2 (row_alloc (row_alloc A1.out _) _)) | replace A1 := Lib.hid (row_call hb2 (row_alloc (row_alloc (row_alloc A1.out _) _) _))
  clear hb2
  have A1_0 : V2.cell? ⟨w.heap.size, 0, none⟩ = some (.int .i64 2) := cell_of_row _ _ _ _ _ _ A1.out
  have A1_1 : V2.cell? ⟨w.heap.size, 1, none⟩ = some (.int .i64 0) := cell_of_row _ _ _ _ _ _ A1.out
  have A1_2 : V2.cell? ⟨w.heap.size, 2, none⟩ = some (.int .i64 f) := cell_of_row _ _ _ _ _ _ A1.out
  have A1_3 : V2.cell? ⟨w.heap.size, 3, none⟩ = some (.int .i64 t) := cell_of_row _ _ _ _ _ _ A1.out
  have A1_4 : V2.cell? ⟨w.heap.size, 4, none⟩ = some (.int .i64 m) := cell_of_row _ _ _ _ _ _ A1.out
  have A1_5 : V2.cell? ⟨w.heap.size, 5, none⟩ = some (.int .i64 dk) := cell_of_row _ _ _ _ _ _ A1.out
  have A1_6 : V2.cell? ⟨w.heap.size, 6, none⟩ = some (.int .i64 dn) := cell_of_row _ _ _ _ _ _ A1.out
  have A1_7 : V2.cell? ⟨w.heap.size, 7, none⟩ = some (.int .i64 dw) := cell_of_row _ _ _ _ _ _ A1.out
  have A1_8 : V2.cell? ⟨w.heap.size, 8, none⟩ = some (.int .i64 ti) := cell_of_row _ _ _ _ _ _ A1.out
  have A1_9 : V2.cell? ⟨w.heap.size, 9, none⟩ = some (.int .i64 rd) := cell_of_row _ _ _ _ _ _ A1.out
  have A1_10 : V2.cell? ⟨w.heap.size, 10, none⟩ = some (.int .i64 off) := cell_of_row _ _ _ _ _ _ A1.out
  have A1_11 : V2.cell? ⟨w.heap.size, 11, none⟩ = some (.bool dst) := cell_of_row _ _ _ _ _ _ A1.out
  have A1_12 : V2.cell? ⟨w.heap.size, 12, none⟩ = some (.string S) := cell_of_row _ _ _ _ _ _ A1.out
  have zA1 := lt_of_heap A1.out
  go_simp
  go_wp2_with fail
  refine (HD.out _ (by first | exact kx_keep hM (B2.out) | exact kx_keep hM ((B2.out).alloc (B2.out.size) _) | exact kx_keep hM (((B2.out).alloc (B2.out.size) _).alloc (by have := B2.out.size; simp <;> omega) _) | exact kx_keep hM ((((B2.out).alloc (B2.out.size) _).alloc (by have := B2.out.size; simp <;> omega) _).alloc (by have := B2.out.size; simp <;> omega) _))).mono ?_
  rintro e V3 ⟨rfl, hb3⟩
  clear A1_0 A1_1 A1_2 A1_3 A1_4 A1_5 A1_6 A1_7 A1_8 A1_9 A1_10 A1_11 A1_12 zA1
  have B3 : Hid (Below w.heap.size w V3) := by first | exact Lib.hid ((B2.out).trans (hb3.mono (by have := B2.out.size; first | assumption | (simp <;> omega) | (simp; done)))) | exact Lib.hid (((B2.out).alloc (B2.out.size) _).trans (hb3.mono (by have := B2.out.size; first | assumption | (simp <;> omega) | (simp; done)))) | exact Lib.hid ((((B2.out).alloc (B2.out.size) _).alloc (by have := B2.out.size; simp <;> omega) _).trans (hb3.mono (by have := B2.out.size; first | assumption | (simp <;> omega) | (simp; done)))) | exact Lib.hid (((((B2.out).alloc (B2.out.size) _).alloc (by have := B2.out.size; simp <;> omega) _).alloc (by have := B2.out.size; simp <;> omega) _).trans (hb3.mono (by have := B2.out.size; first | assumption | (simp <;> omega) | (simp; done))))
  first | replace A1 := Lib.hid (row_call hb3 A1.out) | replace A1 := Lib.hid (row_call hb3 (row_alloc A1.out _)) | replace A1 := Lib.hid (row_call hb3 (row_alloc (row_alloc A1.out _) _)) | replace A1 := Lib.hid (row_call hb3 (row_alloc (row_alloc (row_alloc A1.out _) _) _))
  clear hb3
  have A1_0 : V3.cell? ⟨w.heap.size, 0, none⟩ = some (.int .i64 2) := cell_of_row _ _ _ _ _ _ A1.out
  have A1_1 : V3.cell? ⟨w.heap.size, 1, none⟩ = some (.int .i64 0) := cell_of_row _ _ _ _ _ _ A1.out
  have A1_2 : V3.cell? ⟨w.heap.size, 2, none⟩ = some (.int .i64 f) := cell_of_row _ _ _ _ _ _ A1.out
  have A1_3 : V3.cell? ⟨w.heap.size, 3, none⟩ = some (.int .i64 t) := cell_of_row _ _ _ _ _ _ A1.out
  have A1_4 : V3.cell? ⟨w.heap.size, 4, none⟩ = some (.int .i64 m) := cell_of_row _ _ _ _ _ _ A1.out
  have A1_5 : V3.cell? ⟨w.heap.size, 5, none⟩ = some (.int .i64 dk) := cell_of_row _ _ _ _ _ _ A1.out
  have A1_6 : V3.cell? ⟨w.heap.size, 6, none⟩ = some (.int .i64 dn) := cell_of_row _ _ _ _ _ _ A1.out
  have A1_7 : V3.cell? ⟨w.heap.size, 7, none⟩ = some (.int .i64 dw) := cell_of_row _ _ _ _ _ _ A1.out
  have A1_8 : V3.cell? ⟨w.heap.size, 8, none⟩ = some (.int .i64 ti) := cell_of_row _ _ _ _ _ _ A1.out
  have A1_9 : V3.cell? ⟨w.heap.size, 9, none⟩ = some (.int .i64 rd) := cell_of_row _ _ _ _ _ _ A1.out
  have A1_10 : V3.cell? ⟨w.heap.size, 10, none⟩ = some (.int .i64 off) := cell_of_row _ _ _ _ _ _ A1.out
  have A1_11 : V3.cell? ⟨w.heap.size, 11, none⟩ = some (.bool dst) := cell_of_row _ _ _ _ _ _ A1.out
  have A1_12 : V3.cell? ⟨w.heap.size, 12, none⟩ = some (.string S) := cell_of_row _ _ _ _ _ _ A1.out
  have zA1 := lt_of_heap A1.out
  go_simp
  go_wp2_with fail
  refine (HT.out _ (by first | exact kx_keep hM (B3.out) | exact kx_keep hM ((B3.out).alloc (B3.out.size) _) | exact kx_keep hM (((B3.out).alloc (B3.out.size) _).alloc (by have := B3.out.size; simp <;> omega) _) | exact kx_keep hM ((((B3.out).alloc (B3.out.size) _).alloc (by have := B3.out.size; simp <;> omega) _).alloc (by have := B3.out.size; simp <;> omega) _))).mono ?_
  rintro e V4 ⟨rfl, hb4⟩
  clear A1_0 A1_1 A1_2 A1_3 A1_4 A1_5 A1_6 A1_7 A1_8 A1_9 A1_10 A1_11 A1_12 zA1
  have B4 : Hid (Below w.heap.size w V4) := by first | exact Lib.hid ((B3.out).trans (hb4.mono (by have := B3.out.size; first | assumption | (simp <;> omega) | (simp; done)))) | exact Lib.hid (((B3.out).alloc (B3.out.size) _).trans (hb4.mono (by have := B3.out.size; first | assumption | (simp <;> omega) | (simp; done)))) | exact Lib.hid ((((B3.out).alloc (B3.out.size) _).alloc (by have := B3.out.size; simp <;> omega) _).trans (hb4.mono (by have := B3.out.size; first | assumption | (simp <;> omega) | (simp; done)))) | exact Lib.hid (((((B3.out).alloc (B3.out.size) _).alloc (by have := B3.out.size; simp <;> omega) _).alloc (by have := B3.out.size; simp <;> omega) _).trans (hb4.mono (by have := B3.out.size; first | assumption | (simp <;> omega) | (simp; done))))
  first | replace A1 := Lib.hid (row_call hb4 A1.out) | replace A1 := Lib.hid (row_call hb4 (row_alloc A1.out _)) | replace A1 := Lib.hid (row_call hb4 (row_alloc (row_alloc A1.out _) _)) | replace A1 := Lib.hid (row_call hb4 (row_alloc (row_alloc (row_alloc A1.out _) _) _))
  clear hb4
  have A1_0 : V4.cell? ⟨w.heap.size, 0, none⟩ = some (.int .i64 2) := cell_of_row _ _ _ _ _ _ A1.out
  have A1_1 : V4.cell? ⟨w.heap.size, 1, none⟩ = some (.int .i64 0) := cell_of_row _ _ _ _ _ _ A1.out
  have A1_2 : V4.cell? ⟨w.heap.size, 2, none⟩ = some (.int .i64 f) := cell_of_row _ _ _ _ _ _ A1.out
  have A1_3 : V4.cell? ⟨w.heap.size, 3, none⟩ = some (.int .i64 t) := cell_of_row _ _ _ _ _ _ A1.out
  have A1_4 : V4.cell? ⟨w.heap.size, 4, none⟩ = some (.int .i64 m) := cell_of_row _ _ _ _ _ _ A1.out
  have A1_5 : V4.cell? ⟨w.heap.size, 5, none⟩ = some (.int .i64 dk) := cell_of_row _ _ _ _ _ _ A1.out
  have A1_6 : V4.cell? ⟨w.heap.size, 6, none⟩ = some (.int .i64 dn) := cell_of_row _ _ _ _ _ _ A1.out
  have A1_7 : V4.cell? ⟨w.heap.size, 7, none⟩ = some (.int .i64 dw) := cell_of_row _ _ _ _ _ _ A1.out
  have A1_8 : V4.cell? ⟨w.heap.size, 8, none⟩ = some (.int .i64 ti) := cell_of_row _ _ _ _ _ _ A1.out
  have A1_9 : V4.cell? ⟨w.heap.size, 9, none⟩ = some (.int .i64 rd) := cell_of_row _ _ _ _ _ _ A1.out
  have A1_10 : V4.cell? ⟨w.heap.size, 10, none⟩ = some (.int .i64 off) := cell_of_row _ _ _ _ _ _ A1.out
  have A1_11 : V4.cell? ⟨w.heap.size, 11, none⟩ = some (.bool dst) := cell_of_row _ _ _ _ _ _ A1.out
  have A1_12 : V4.cell? ⟨w.heap.size, 12, none⟩ = some (.string S) := cell_of_row _ _ _ _ _ _ A1.out
  have zA1 := lt_of_heap A1.out
  go_simp
  go_wp2_with fail
  refine (HO.out _ (by first | exact kx_keep hM (B4.out) | exact kx_keep hM ((B4.out).alloc (B4.out.size) _) | exact kx_keep hM (((B4.out).alloc (B4.out.size) _).alloc (by have := B4.out.size; simp <;> omega) _) | exact kx_keep hM ((((B4.out).alloc (B4.out.size) _).alloc (by have := B4.out.size; simp <;> omega) _).alloc (by have := B4.out.size; simp <;> omega) _))).mono ?_
  rintro e V5 ⟨rfl, hb5⟩
  clear A1_0 A1_1 A1_2 A1_3 A1_4 A1_5 A1_6 A1_7 A1_8 A1_9 A1_10 A1_11 A1_12 zA1
  have B5 : Hid (Below w.heap.size w V5) := by first | exact Lib.hid ((B4.out).trans (hb5.mono (by have := B4.out.size; first | assumption | (simp <;> omega) | (simp; done)))) | exact Lib.hid (((B4.out).alloc (B4.out.size) _).trans (hb5.mono (by have := B4.out.size; first | assumption | (simp <;> omega) | (simp; done)))) | exact Lib.hid ((((B4.out).alloc (B4.out.size) _).alloc (by have := B4.out.size; simp <;> omega) _).trans (hb5.mono (by have := B4.out.size; first | assumption | (simp <;> omega) | (simp; done)))) | exact Lib.hid (((((B4.out).alloc (B4.out.size) _).alloc (by have := B4.out.size; simp <;> omega) _).alloc (by have := B4.out.size; simp <;> omega) _).trans (hb5.mono (by have := B4.out.size; first | assumption | (simp <;> omega) | (simp; done))))
  first | replace A1 := Lib.hid (row_call hb5 A1.out) | replace A1 := Lib.hid (row_call hb5 (row_alloc A1.out _)) | replace A1 := Lib.hid (row_call hb5 (row_alloc (row_alloc A1.out _) _)) | replace A1 := Lib.hid (row_call hb5 (row_alloc (row_alloc (row_alloc A1.out _) _) _))
  clear hb5
  have A1_0 : V5.cell? ⟨w.heap.size, 0, none⟩ = some (.int .i64 2) := cell_of_row _ _ _ _ _ _ A1.out
  have A1_1 : V5.cell? ⟨w.heap.size, 1, none⟩ = some (.int .i64 0) := cell_of_row _ _ _ _ _ _ A1.out
  have A1_2 : V5.cell? ⟨w.heap.size, 2, none⟩ = some (.int .i64 f) := cell_of_row _ _ _ _ _ _ A1.out
  have A1_3 : V5.cell? ⟨w.heap.size, 3, none⟩ = some (.int .i64 t) := cell_of_row _ _ _ _ _ _ A1.out
  have A1_4 : V5.cell? ⟨w.heap.size, 4, none⟩ = some (.int .i64 m) := cell_of_row _ _ _ _ _ _ A1.out
  have A1_5 : V5.cell? ⟨w.heap.size, 5, none⟩ = some (.int .i64 dk) := cell_of_row _ _ _ _ _ _ A1.out
  have A1_6 : V5.cell? ⟨w.heap.size, 6, none⟩ = some (.int .i64 dn) := cell_of_row _ _ _ _ _ _ A1.out
  have A1_7 : V5.cell? ⟨w.heap.size, 7, none⟩ = some (.int .i64 dw) := cell_of_row _ _ _ _ _ _ A1.out
  have A1_8 : V5.cell? ⟨w.heap.size, 8, none⟩ = some (.int .i64 ti) := cell_of_row _ _ _ _ _ _ A1.out
  have A1_9 : V5.cell? ⟨w.heap.size, 9, none⟩ = some (.int .i64 rd) := cell_of_row _ _ _ _ _ _ A1.out
  have A1_10 : V5.cell? ⟨w.heap.size, 10, none⟩ = some (.int .i64 off) := cell_of_row _ _ _ _ _ _ A1.out
  have A1_11 : V5.cell? ⟨w.heap.size, 11, none⟩ = some (.bool dst) := cell_of_row _ _ _ _ _ _ A1.out
  have A1_12 : V5.cell? ⟨w.heap.size, 12, none⟩ = some (.string S) := cell_of_row _ _ _ _ _ _ A1.out
  have zA1 := lt_of_heap A1.out
  go_simp
  go_wp2
  go_ret
  exact ⟨rfl, B5.out⟩
end Go.Proofs.YteinjdmkmfeniaaGreatDoor
namespace Go.Proofs.YteinjdmkmfeniaaGreatDoor
set_option linter.unusedVariables false
set_option linter.unusedSimpArgs false
open Go.ChangeShapes Go.WideShapes Go.ChangeAt Go.RowKit
def AtOk (l : Lin) : Prop := l.f = 0 ∧ l.t = 0 ∧ l.m = 0 ∧ l.dk = 0 ∧ l.dn = 0 ∧ l.dw = 0 ∧ l.ti = 0 ∧ l.rd = 0
def RuOk (l : Lin) : Prop := l.s = 0 ∧ yeB l.f l.t = true ∧ (1 ≤ l.m ∧ l.m ≤ 12) ∧ mayD l.dk l.dn l.dw = true ∧ (0 ≤ l.ti ∧ l.ti ≤ 86400) ∧ (-64800 ≤ l.rd ∧ l.rd ≤ 64800)
def LineMay (l : Lin) : Prop := (l.k = 1 ∧ AtOk l) ∨ (l.k = 2 ∧ RuOk l)
noncomputable def notB (l : Lin) : Bool := @decide (¬ LineMay l) (Classical.propDecidable _)
theorem notB_yes {l : Lin} (h : ¬ LineMay l) : notB l = true := by unfold notB; exact @decide_eq_true _ (Classical.propDecidable _) h
theorem notB_no {l : Lin} (h : LineMay l) : notB l = false := by unfold notB; exact @decide_eq_false _ (Classical.propDecidable _) (fun e => e h)
theorem notB_iff (l : Lin) : notB l = false ↔ LineMay l := by
  constructor
  · intro h
    apply Classical.byContradiction
    intro q
    rw [notB_yes q] at h
    cases h
  · exact notB_no
set_option maxHeartbeats 3200000 in
set_option maxRecDepth 100000 in
theorem pMayNot_any (l : Lin) (n0 : -9223372036854775808 ≤ l.dn) (n1 : l.dn ≤ 9223372036854775807) (w : World) (hK : KX w) : Calls Tryz.prog 22 #[linA l] w fun e w' => e = .returned (.bool (notB l)) ∧ Below w.heap.size w w' := by
  obtain ⟨k, s, f, t, m, dk, dn, dw, ti, rd, off, dst, abb⟩ := l
  simp only at n0 n1
  by_cases h1 : k = 1
  · subst h1
    have no : ∀ (q : ¬ AtOk ⟨1, s, f, t, m, dk, dn, dw, ti, rd, off, dst, abb⟩), notB ⟨1, s, f, t, m, dk, dn, dw, ti, rd, off, dst, abb⟩ = true := fun q => notB_yes (fun e => by
      rcases e with ⟨_, e⟩ | ⟨e, _⟩
      · exact q e
      · have e' : (1 : Int) = 2 := e
        omega)
    by_cases hf : f = 0
    · subst hf
      by_cases ht : t = 0
      · subst ht
        by_cases hm : m = 0
        · subst hm
          by_cases hdk : dk = 0
          · subst hdk
            by_cases hdn : dn = 0
            · subst hdn
              by_cases hdw : dw = 0
              · subst hdw
                by_cases hti : ti = 0
                · subst hti
                  by_cases hrd : rd = 0
                  · subst hrd
                    rw [notB_no (Or.inl ⟨rfl, rfl, rfl, rfl, rfl, rfl, rfl, rfl, rfl⟩)]
                    exact mnAt_ok s off dst (bs abb) w
                  · rw [no (fun e => hrd e.2.2.2.2.2.2.2)]; exact mnAt_rd s rd off dst (bs abb) hrd w
                · rw [no (fun e => hti e.2.2.2.2.2.2.1)]; exact mnAt_ti s ti rd off dst (bs abb) hti w
              · rw [no (fun e => hdw e.2.2.2.2.2.1)]; exact mnAt_dw s dw ti rd off dst (bs abb) hdw w
            · rw [no (fun e => hdn e.2.2.2.2.1)]; exact mnAt_dn s dn dw ti rd off dst (bs abb) hdn w
          · rw [no (fun e => hdk e.2.2.2.1)]; exact mnAt_dk s dk dn dw ti rd off dst (bs abb) hdk w
        · rw [no (fun e => hm e.2.2.1)]; exact mnAt_m s m dk dn dw ti rd off dst (bs abb) hm w
      · rw [no (fun e => ht e.2.1)]; exact mnAt_t s t m dk dn dw ti rd off dst (bs abb) ht w
    · rw [no (fun e => hf e.1)]; exact mnAt_f s f t m dk dn dw ti rd off dst (bs abb) hf w
  by_cases h2 : k = 2
  · subst h2
    have no : ∀ (q : ¬ RuOk ⟨2, s, f, t, m, dk, dn, dw, ti, rd, off, dst, abb⟩), notB ⟨2, s, f, t, m, dk, dn, dw, ti, rd, off, dst, abb⟩ = true := fun q => notB_yes (fun e => by
      rcases e with ⟨e, _⟩ | ⟨_, e⟩
      · have e' : (2 : Int) = 1 := e
        omega
      · exact q e)
    have cy := fun w (hK : KX w) => grow3 (pYears15_p f t w)
    have cm := fun w (hK : KX w) => grow3 (pWithin15_p m 1 12 w)
    have cd := fun w (hK : KX w) => pTold_any dk dn dw n0 n1 w hK
    have ct := fun w (hK : KX w) => grow3 (pWithin15_p ti 0 86400 w)
    have co := fun w (hK : KX w) => grow3 (pIsOffset_p rd w)
    by_cases hs : s = 0
    · subst hs
      cases hy : yeB f t
      · rw [hy] at cy
        rw [no (fun e => by have h := e.2.1; simp only at h; rw [hy] at h; cases h)]
        exact mnRu_1 f t m dk dn dw ti rd off dst (bs abb) (Lib.hid cy) w (Lib.hid hK)
      rw [hy] at cy
      by_cases hm : 1 ≤ m ∧ m ≤ 12
      · rw [(inI_iff m 1 12).2 hm] at cm
        cases hd : mayD dk dn dw
        · rw [hd] at cd
          rw [no (fun e => by have h := e.2.2.2.1; simp only at h; rw [hd] at h; cases h)]
          exact mnRu_3 f t m dk dn dw ti rd off dst (bs abb) (Lib.hid cy) (Lib.hid cm) (Lib.hid cd) w (Lib.hid hK)
        rw [hd] at cd
        by_cases ht : 0 ≤ ti ∧ ti ≤ 86400
        · rw [(inI_iff ti 0 86400).2 ht] at ct
          by_cases hr : -64800 ≤ rd ∧ rd ≤ 64800
          · rw [(inI_iff rd (-64800) 64800).2 hr] at co
            rw [notB_no (Or.inr ⟨rfl, rfl, hy, hm, hd, ht, hr⟩)]
            exact mnRu_6 f t m dk dn dw ti rd off dst (bs abb) (Lib.hid cy) (Lib.hid cm) (Lib.hid cd) (Lib.hid ct) (Lib.hid co) w (Lib.hid hK)
          · rw [inI_no hr] at co
            rw [no (fun e => hr e.2.2.2.2.2)]
            exact mnRu_5 f t m dk dn dw ti rd off dst (bs abb) (Lib.hid cy) (Lib.hid cm) (Lib.hid cd) (Lib.hid ct) (Lib.hid co) w (Lib.hid hK)
        · rw [inI_no ht] at ct
          rw [no (fun e => ht e.2.2.2.2.1)]
          exact mnRu_4 f t m dk dn dw ti rd off dst (bs abb) (Lib.hid cy) (Lib.hid cm) (Lib.hid cd) (Lib.hid ct) w (Lib.hid hK)
      · rw [inI_no hm] at cm
        rw [no (fun e => hm e.2.2.1)]
        exact mnRu_2 f t m dk dn dw ti rd off dst (bs abb) (Lib.hid cy) (Lib.hid cm) w (Lib.hid hK)
    · rw [no (fun e => hs e.1)]
      exact mnRu_0 s f t m dk dn dw ti rd off dst (bs abb) hs w (Lib.hid hK)
  · rw [notB_yes (fun e => by rcases e with ⟨e, _⟩ | ⟨e, _⟩; exact h1 e; exact h2 e)]
    exact mnKind k s f t m dk dn dw ti rd off dst (bs abb) h1 h2 w
def badAb (t : List UInt8) : Bool := abbE t != 0
set_option maxHeartbeats 1600000 in
set_option maxRecDepth 100000 in
theorem pMisspelt_any (off : Int) (dst : Bool) (abb : List UInt8) (hL : abb.length ≤ 9223372036854775807) (w : World) : Calls Tryz.prog 19 #[.agg #[.int .i64 off, .bool dst, .string (bs abb)]] w fun e w' => e = .returned (.bool (badAb abb)) ∧ Below w.heap.size w w' := by
  have H := Lib.hid (pAbbr_all abb hL)
  have E : Hid (badAb abb = (abbE abb != 0)) := Lib.hid rfl
  generalize abbE abb = a at *
  go_enter Tryz.func19, Tryz.ntmps19
  go_wp2_with fail
  
  refine (H.out _).mono ?_
  rintro e V1 ⟨rfl, hb1⟩
  have B1 := Lib.hid (((Below.refl w.heap.size w).alloc (Nat.le_refl _) _).trans (hb1.mono (by first | assumption | (simp <;> omega) | (simp; done))))
  have A1 := Lib.hid (row_call hb1 (heap_alloc_new _ _))
  clear hb1
  have A1_0 : V1.cell? ⟨w.heap.size, 0, none⟩ = some (.int .i64 off) := cell_of_row _ _ _ _ _ _ A1.out
  have A1_1 : V1.cell? ⟨w.heap.size, 1, none⟩ = some (.bool dst) := cell_of_row _ _ _ _ _ _ A1.out
  have A1_2 : V1.cell? ⟨w.heap.size, 2, none⟩ = some (.string (bs abb)) := cell_of_row _ _ _ _ _ _ A1.out
  have zA1 := lt_of_heap A1.out
  go_simp
  go_wp2
  go_ret
  exact ⟨by rw [E.out]; try rfl, B1.out⟩
set_option maxHeartbeats 1600000 in
set_option maxRecDepth 100000 in
theorem pMisspeltLine_any (l : Lin) (hL : l.abb.length ≤ 9223372036854775807) (w : World) : Calls Tryz.prog 21 #[linA l] w fun e w' => e = .returned (.bool (badAb l.abb)) ∧ Below w.heap.size w w' := by
  have H := Lib.hid (pMisspelt_any l.off l.dst l.abb hL)
  generalize badAb l.abb = B at *
  obtain ⟨k, s, f, t, m, dk, dn, dw, ti, rd, off, dst, abb⟩ := l
  simp only at H
  unfold linA
  go_enter Tryz.func21, Tryz.ntmps21
  go_wp2_with fail
  
  refine (H.out _).mono ?_
  rintro e V1 ⟨rfl, hb1⟩
  have B1 := Lib.hid (((Below.refl w.heap.size w).alloc (Nat.le_refl _) _).trans (hb1.mono (by first | assumption | (simp <;> omega) | (simp; done))))
  have A1 := Lib.hid (row_call hb1 (heap_alloc_new _ _))
  clear hb1
  have A1_0 : V1.cell? ⟨w.heap.size, 0, none⟩ = some (.int .i64 k) := cell_of_row _ _ _ _ _ _ A1.out
  have A1_1 : V1.cell? ⟨w.heap.size, 1, none⟩ = some (.int .i64 s) := cell_of_row _ _ _ _ _ _ A1.out
  have A1_2 : V1.cell? ⟨w.heap.size, 2, none⟩ = some (.int .i64 f) := cell_of_row _ _ _ _ _ _ A1.out
  have A1_3 : V1.cell? ⟨w.heap.size, 3, none⟩ = some (.int .i64 t) := cell_of_row _ _ _ _ _ _ A1.out
  have A1_4 : V1.cell? ⟨w.heap.size, 4, none⟩ = some (.int .i64 m) := cell_of_row _ _ _ _ _ _ A1.out
  have A1_5 : V1.cell? ⟨w.heap.size, 5, none⟩ = some (.int .i64 dk) := cell_of_row _ _ _ _ _ _ A1.out
  have A1_6 : V1.cell? ⟨w.heap.size, 6, none⟩ = some (.int .i64 dn) := cell_of_row _ _ _ _ _ _ A1.out
  have A1_7 : V1.cell? ⟨w.heap.size, 7, none⟩ = some (.int .i64 dw) := cell_of_row _ _ _ _ _ _ A1.out
  have A1_8 : V1.cell? ⟨w.heap.size, 8, none⟩ = some (.int .i64 ti) := cell_of_row _ _ _ _ _ _ A1.out
  have A1_9 : V1.cell? ⟨w.heap.size, 9, none⟩ = some (.int .i64 rd) := cell_of_row _ _ _ _ _ _ A1.out
  have A1_10 : V1.cell? ⟨w.heap.size, 10, none⟩ = some (.int .i64 off) := cell_of_row _ _ _ _ _ _ A1.out
  have A1_11 : V1.cell? ⟨w.heap.size, 11, none⟩ = some (.bool dst) := cell_of_row _ _ _ _ _ _ A1.out
  have A1_12 : V1.cell? ⟨w.heap.size, 12, none⟩ = some (.string (bs abb)) := cell_of_row _ _ _ _ _ _ A1.out
  have zA1 := lt_of_heap A1.out
  go_simp
  go_wp2
  go_ret
  exact ⟨rfl, B1.out⟩
set_option maxHeartbeats 1600000 in
set_option maxRecDepth 100000 in
theorem pFar_any (off : Int) (dst : Bool) (S : ByteArray) (w : World) : Calls Tryz.prog 23 #[.agg #[.int .i64 off, .bool dst, .string S]] w fun e w' => e = .returned (.bool (!inI off (-64800) 64800)) ∧ Below w.heap.size w w' := by
  have H := Lib.hid (fun w => grow3 (pIsOffset_p off w))
  generalize inI off (-64800) 64800 = b at *
  go_enter Tryz.func23, Tryz.ntmps23
  go_wp2_with fail
  
  refine (H.out _).mono ?_
  rintro e V1 ⟨rfl, hb1⟩
  have B1 := Lib.hid (((Below.refl w.heap.size w).alloc (Nat.le_refl _) _).trans (hb1.mono (by first | assumption | (simp <;> omega) | (simp; done))))
  have A1 := Lib.hid (row_call hb1 (heap_alloc_new _ _))
  clear hb1
  have A1_0 : V1.cell? ⟨w.heap.size, 0, none⟩ = some (.int .i64 off) := cell_of_row _ _ _ _ _ _ A1.out
  have A1_1 : V1.cell? ⟨w.heap.size, 1, none⟩ = some (.bool dst) := cell_of_row _ _ _ _ _ _ A1.out
  have A1_2 : V1.cell? ⟨w.heap.size, 2, none⟩ = some (.string S) := cell_of_row _ _ _ _ _ _ A1.out
  have zA1 := lt_of_heap A1.out
  go_simp
  go_wp2
  go_ret
  exact ⟨rfl, B1.out⟩
def farB (l : Lin) : Bool := !inI l.off (-64800) 64800 || !inI l.s (-377705116800) 253402300799
set_option maxHeartbeats 1600000 in
set_option maxRecDepth 100000 in
theorem pFarLine_any (l : Lin) (w : World) : Calls Tryz.prog 24 #[linA l] w fun e w' => e = .returned (.bool (farB l)) ∧ Below w.heap.size w w' := by
  have H := Lib.hid (pFar_any l.off l.dst (bs l.abb))
  have H2 := Lib.hid (fun w => grow3 (pWithin15_p l.s (-377705116800) 253402300799 w))
  have E : Hid (farB l = (!inI l.off (-64800) 64800 || !inI l.s (-377705116800) 253402300799)) := Lib.hid rfl
  generalize farB l = B at *
  generalize inI l.off (-64800) 64800 = b at *
  generalize inI l.s (-377705116800) 253402300799 = c at *
  obtain ⟨k, s, f, t, m, dk, dn, dw, ti, rd, off, dst, abb⟩ := l
  simp only at H H2
  unfold linA
  cases b
  · go_enter Tryz.func24, Tryz.ntmps24
    go_wp2_with fail
    
    refine (H.out _).mono ?_
    rintro e V1 ⟨rfl, hb1⟩
    have B1 := Lib.hid (((Below.refl w.heap.size w).alloc (Nat.le_refl _) _).trans (hb1.mono (by first | assumption | (simp <;> omega) | (simp; done))))
    have A1 := Lib.hid (row_call hb1 (heap_alloc_new _ _))
    clear hb1
    have A1_0 : V1.cell? ⟨w.heap.size, 0, none⟩ = some (.int .i64 k) := cell_of_row _ _ _ _ _ _ A1.out
    have A1_1 : V1.cell? ⟨w.heap.size, 1, none⟩ = some (.int .i64 s) := cell_of_row _ _ _ _ _ _ A1.out
    have A1_2 : V1.cell? ⟨w.heap.size, 2, none⟩ = some (.int .i64 f) := cell_of_row _ _ _ _ _ _ A1.out
    have A1_3 : V1.cell? ⟨w.heap.size, 3, none⟩ = some (.int .i64 t) := cell_of_row _ _ _ _ _ _ A1.out
    have A1_4 : V1.cell? ⟨w.heap.size, 4, none⟩ = some (.int .i64 m) := cell_of_row _ _ _ _ _ _ A1.out
    have A1_5 : V1.cell? ⟨w.heap.size, 5, none⟩ = some (.int .i64 dk) := cell_of_row _ _ _ _ _ _ A1.out
    have A1_6 : V1.cell? ⟨w.heap.size, 6, none⟩ = some (.int .i64 dn) := cell_of_row _ _ _ _ _ _ A1.out
    have A1_7 : V1.cell? ⟨w.heap.size, 7, none⟩ = some (.int .i64 dw) := cell_of_row _ _ _ _ _ _ A1.out
    have A1_8 : V1.cell? ⟨w.heap.size, 8, none⟩ = some (.int .i64 ti) := cell_of_row _ _ _ _ _ _ A1.out
    have A1_9 : V1.cell? ⟨w.heap.size, 9, none⟩ = some (.int .i64 rd) := cell_of_row _ _ _ _ _ _ A1.out
    have A1_10 : V1.cell? ⟨w.heap.size, 10, none⟩ = some (.int .i64 off) := cell_of_row _ _ _ _ _ _ A1.out
    have A1_11 : V1.cell? ⟨w.heap.size, 11, none⟩ = some (.bool dst) := cell_of_row _ _ _ _ _ _ A1.out
    have A1_12 : V1.cell? ⟨w.heap.size, 12, none⟩ = some (.string (bs abb)) := cell_of_row _ _ _ _ _ _ A1.out
    have zA1 := lt_of_heap A1.out
    go_simp
    go_wp2
    go_ret
    exact ⟨by rw [E.out]; try rfl, B1.out⟩
  · go_enter Tryz.func24, Tryz.ntmps24
    go_wp2_with fail
    
    refine (H.out _).mono ?_
    rintro e V1 ⟨rfl, hb1⟩
    have B1 := Lib.hid (((Below.refl w.heap.size w).alloc (Nat.le_refl _) _).trans (hb1.mono (by first | assumption | (simp <;> omega) | (simp; done))))
    have A1 := Lib.hid (row_call hb1 (heap_alloc_new _ _))
    clear hb1
    have A1_0 : V1.cell? ⟨w.heap.size, 0, none⟩ = some (.int .i64 k) := cell_of_row _ _ _ _ _ _ A1.out
    have A1_1 : V1.cell? ⟨w.heap.size, 1, none⟩ = some (.int .i64 s) := cell_of_row _ _ _ _ _ _ A1.out
    have A1_2 : V1.cell? ⟨w.heap.size, 2, none⟩ = some (.int .i64 f) := cell_of_row _ _ _ _ _ _ A1.out
    have A1_3 : V1.cell? ⟨w.heap.size, 3, none⟩ = some (.int .i64 t) := cell_of_row _ _ _ _ _ _ A1.out
    have A1_4 : V1.cell? ⟨w.heap.size, 4, none⟩ = some (.int .i64 m) := cell_of_row _ _ _ _ _ _ A1.out
    have A1_5 : V1.cell? ⟨w.heap.size, 5, none⟩ = some (.int .i64 dk) := cell_of_row _ _ _ _ _ _ A1.out
    have A1_6 : V1.cell? ⟨w.heap.size, 6, none⟩ = some (.int .i64 dn) := cell_of_row _ _ _ _ _ _ A1.out
    have A1_7 : V1.cell? ⟨w.heap.size, 7, none⟩ = some (.int .i64 dw) := cell_of_row _ _ _ _ _ _ A1.out
    have A1_8 : V1.cell? ⟨w.heap.size, 8, none⟩ = some (.int .i64 ti) := cell_of_row _ _ _ _ _ _ A1.out
    have A1_9 : V1.cell? ⟨w.heap.size, 9, none⟩ = some (.int .i64 rd) := cell_of_row _ _ _ _ _ _ A1.out
    have A1_10 : V1.cell? ⟨w.heap.size, 10, none⟩ = some (.int .i64 off) := cell_of_row _ _ _ _ _ _ A1.out
    have A1_11 : V1.cell? ⟨w.heap.size, 11, none⟩ = some (.bool dst) := cell_of_row _ _ _ _ _ _ A1.out
    have A1_12 : V1.cell? ⟨w.heap.size, 12, none⟩ = some (.string (bs abb)) := cell_of_row _ _ _ _ _ _ A1.out
    have zA1 := lt_of_heap A1.out
    go_simp
    go_wp2_with fail
    refine (H2.out _).mono ?_
    rintro e V2 ⟨rfl, hb2⟩
    clear A1_0 A1_1 A1_2 A1_3 A1_4 A1_5 A1_6 A1_7 A1_8 A1_9 A1_10 A1_11 A1_12 zA1
    have B2 : Hid (Below w.heap.size w V2) := by first | exact Lib.hid ((B1.out).trans (hb2.mono (by have := B1.out.size; first | assumption | (simp <;> omega) | (simp; done)))) | exact Lib.hid (((B1.out).alloc (B1.out.size) _).trans (hb2.mono (by have := B1.out.size; first | assumption | (simp <;> omega) | (simp; done)))) | exact Lib.hid ((((B1.out).alloc (B1.out.size) _).alloc (by have := B1.out.size; simp <;> omega) _).trans (hb2.mono (by have := B1.out.size; first | assumption | (simp <;> omega) | (simp; done)))) | exact Lib.hid (((((B1.out).alloc (B1.out.size) _).alloc (by have := B1.out.size; simp <;> omega) _).alloc (by have := B1.out.size; simp <;> omega) _).trans (hb2.mono (by have := B1.out.size; first | assumption | (simp <;> omega) | (simp; done))))
    first | replace A1 := Lib.hid (row_call hb2 A1.out) | replace A1 := Lib.hid (row_call hb2 (row_alloc A1.out _)) | replace A1 := Lib.hid (row_call hb2 (row_alloc (row_alloc A1.out _) _)) | replace A1 := Lib.hid (row_call hb2 (row_alloc (row_alloc (row_alloc A1.out _) _) _))
    clear hb2
    have A1_0 : V2.cell? ⟨w.heap.size, 0, none⟩ = some (.int .i64 k) := cell_of_row _ _ _ _ _ _ A1.out
    have A1_1 : V2.cell? ⟨w.heap.size, 1, none⟩ = some (.int .i64 s) := cell_of_row _ _ _ _ _ _ A1.out
    have A1_2 : V2.cell? ⟨w.heap.size, 2, none⟩ = some (.int .i64 f) := cell_of_row _ _ _ _ _ _ A1.out
    have A1_3 : V2.cell? ⟨w.heap.size, 3, none⟩ = some (.int .i64 t) := cell_of_row _ _ _ _ _ _ A1.out
    have A1_4 : V2.cell? ⟨w.heap.size, 4, none⟩ = some (.int .i64 m) := cell_of_row _ _ _ _ _ _ A1.out
    have A1_5 : V2.cell? ⟨w.heap.size, 5, none⟩ = some (.int .i64 dk) := cell_of_row _ _ _ _ _ _ A1.out
    have A1_6 : V2.cell? ⟨w.heap.size, 6, none⟩ = some (.int .i64 dn) := cell_of_row _ _ _ _ _ _ A1.out
    have A1_7 : V2.cell? ⟨w.heap.size, 7, none⟩ = some (.int .i64 dw) := cell_of_row _ _ _ _ _ _ A1.out
    have A1_8 : V2.cell? ⟨w.heap.size, 8, none⟩ = some (.int .i64 ti) := cell_of_row _ _ _ _ _ _ A1.out
    have A1_9 : V2.cell? ⟨w.heap.size, 9, none⟩ = some (.int .i64 rd) := cell_of_row _ _ _ _ _ _ A1.out
    have A1_10 : V2.cell? ⟨w.heap.size, 10, none⟩ = some (.int .i64 off) := cell_of_row _ _ _ _ _ _ A1.out
    have A1_11 : V2.cell? ⟨w.heap.size, 11, none⟩ = some (.bool dst) := cell_of_row _ _ _ _ _ _ A1.out
    have A1_12 : V2.cell? ⟨w.heap.size, 12, none⟩ = some (.string (bs abb)) := cell_of_row _ _ _ _ _ _ A1.out
    have zA1 := lt_of_heap A1.out
    go_simp
    go_wp2
    go_ret
    exact ⟨by rw [E.out]; try rfl, B2.out⟩
set_option maxHeartbeats 3200000 in
set_option maxRecDepth 100000 in
theorem pIndex_ms (p : Lin → Bool) (T : List Lin) (hH : ∀ l ∈ T, ∀ w, KX w → Calls Tryz.prog 21 #[linA l] w fun e w' => e = .returned (.bool (p l)) ∧ Below w.heap.size w w') (hl : T.length ≤ 9223372036854775807) (A : Option Addr) (c : Nat) (w : World) (hK : KX w) (hR : Rd w A (linVs T)) :
    Calls Tryz.prog 41 #[.slice A T.length c, .func (.func 21) #[] #[]] w fun e w' => (∃ i : Int, e = .returned (.int .i64 i) ∧ (0 ≤ i ↔ T.any p = true)) ∧ Below w.heap.size w w' := by
  have HA := Lib.hid hR
  have HK := Lib.hid hK
  have HH := Lib.hid hH
  clear hR hK hH
  go_enter Tryz.func41, Tryz.ntmps41
  go_wp2
  go_loopw [8] (fun i wr => ∃ k : Nat, k ≤ T.length ∧ i = .int .i64 (k : Int) ∧ Hid (∀ j (h : j < T.length), j < k → p T[j] = false) ∧ Below w.heap.size w wr) (fun i _ => T.length - (intOf i).toNat)
  case atStart => exact ⟨0, by omega, rfl, Lib.hid (fun j _ h => by omega), Below.refl _ _⟩
  case round =>
    obtain ⟨k, hk, rfl, hno, hB1⟩ := hrel
    obtain ⟨V20, rfl⟩ : ∃ V, V = wr := ⟨_, rfl⟩
    have hR := HA.out.below hB1 (Nat.le_refl _)
    have B20 := Lib.hid hB1
    clear hB1
    by_cases hlt : k < T.length
    · obtain ⟨b, o, rfl, hb, hc⟩ := hR.lin hlt
      obtain ⟨a0, a1, a2, a3, a4, a5, a6, a7, a8, a9, a10, a11, a12⟩ := hc k hlt
      have HC := Lib.hid (HH.out T[k] (by simp) V20 (kx_keep HK B20.out))
      have hyes : Hid (p T[k] = true → T.any p = true) := Lib.hid (fun h => List.any_eq_true.2 ⟨T[k], by simp, h⟩)
      have hno2 : Hid (p T[k] = false → ∀ j (h : j < T.length), j < k + 1 → p T[j] = false) := Lib.hid (fun e j h hj => by
        by_cases hjk : j = k
        · subst hjk; exact e
        · exact hno.out j h (by omega))
      clear hc hR HH
      obtain ⟨l, hTk⟩ : ∃ l, T[k] = l := ⟨_, rfl⟩
      rw [hTk] at a0 a1 a2 a3 a4 a5 a6 a7 a8 a9 a10 a11 a12 HC hyes hno2
      replace hTk := Lib.hid hTk
      obtain ⟨l0, l1, l2, l3, l4, l5, l6, l7, l8, l9, l10, l11, l12⟩ := l
      simp only at a0 a1 a2 a3 a4 a5 a6 a7 a8 a9 a10 a11 a12
      unfold linA at HC
      have hwk : IntKind.i64.wrap ((k : Int) + 1) = (k : Int) + 1 := wrap_small _ (by omega) (by omega)
      generalize hp : p _ = pb at HC hyes hno2
      
      cases pb
      · go_wp2_with fail
        refine HC.out.mono ?_
        rintro e w5 ⟨rfl, hb5⟩
        have B5 := Lib.hid (B20.out.trans (hb5.mono B20.out.size))
        have hno3 := Lib.hid (hno2.out (by first | trivial | rfl))
        clear hb5 HC hno hno2 hyes
        go_wp2
        go_roundw
        case rel => exact ⟨k + 1, by omega, by go_num, Lib.hid (fun j h hj => hno3.out j (by omega) hj), B5.out⟩
        case measure => simp [intOf]; omega
      · go_wp2_with fail
        refine HC.out.mono ?_
        rintro e w5 ⟨rfl, hb5⟩
        have B5 := Lib.hid (B20.out.trans (hb5.mono B20.out.size))
        clear hb5 HC hno hno2
        go_wp2
        go_ret
        exact ⟨⟨(k : Int), rfl, fun _ => hyes.out (by first | trivial | rfl), fun _ => by omega⟩, B5.out⟩
    · obtain rfl : k = T.length := by omega
      have hany : Hid (T.any p = false) := Lib.hid (by
        rw [List.any_eq_false]
        intro x hx
        obtain ⟨j, hj, rfl⟩ := List.mem_iff_getElem.1 hx
        rw [hno.out j hj hj]
        decide)
      clear hR
      
      go_wp2
      go_ret
      exact ⟨⟨-1, rfl, fun h => absurd h (by decide), fun h => by rw [hany.out] at h; cases h⟩, B20.out⟩
set_option maxHeartbeats 1600000 in
set_option maxRecDepth 100000 in
theorem pContains_ms (p : Lin → Bool) (T : List Lin) (hH : ∀ l ∈ T, ∀ w, KX w → Calls Tryz.prog 21 #[linA l] w fun e w' => e = .returned (.bool (p l)) ∧ Below w.heap.size w w') (hl : T.length ≤ 9223372036854775807) (A : Option Addr) (c : Nat) (w : World) (hK : KX w) (hR : Rd w A (linVs T)) :
    Calls Tryz.prog 20 #[.slice A T.length c, .func (.func 21) #[] #[]] w fun e w' => e = .returned (.bool (T.any p)) ∧ Below w.heap.size w w' := by
  have H := Lib.hid (pIndex_ms p T hH hl A c w hK hR)
  clear hH
  generalize T.length = N at *
  generalize T.any p = B at *
  go_enter Tryz.func20, Tryz.ntmps20
  go_wp2_with fail
  refine H.out.mono ?_
  rintro e w1 ⟨⟨i, rfl, hi⟩, hb⟩
  replace hb := Lib.hid hb
  have hE : Hid (decide (0 ≤ i) = B) := Lib.hid (by
    cases B
    · exact decide_eq_false (fun h => by have := hi.1 h; cases this)
    · exact decide_eq_true (hi.2 rfl))
  clear hi
  go_wp2
  go_ret
  exact ⟨by rw [← hE.out]; try rfl, hb.out⟩
set_option maxHeartbeats 3200000 in
set_option maxRecDepth 100000 in
theorem pIndex_mn (p : Lin → Bool) (T : List Lin) (hH : ∀ l ∈ T, ∀ w, KX w → Calls Tryz.prog 22 #[linA l] w fun e w' => e = .returned (.bool (p l)) ∧ Below w.heap.size w w') (hl : T.length ≤ 9223372036854775807) (A : Option Addr) (c : Nat) (w : World) (hK : KX w) (hR : Rd w A (linVs T)) :
    Calls Tryz.prog 41 #[.slice A T.length c, .func (.func 22) #[] #[]] w fun e w' => (∃ i : Int, e = .returned (.int .i64 i) ∧ (0 ≤ i ↔ T.any p = true)) ∧ Below w.heap.size w w' := by
  have HA := Lib.hid hR
  have HK := Lib.hid hK
  have HH := Lib.hid hH
  clear hR hK hH
  go_enter Tryz.func41, Tryz.ntmps41
  go_wp2
  go_loopw [8] (fun i wr => ∃ k : Nat, k ≤ T.length ∧ i = .int .i64 (k : Int) ∧ Hid (∀ j (h : j < T.length), j < k → p T[j] = false) ∧ Below w.heap.size w wr) (fun i _ => T.length - (intOf i).toNat)
  case atStart => exact ⟨0, by omega, rfl, Lib.hid (fun j _ h => by omega), Below.refl _ _⟩
  case round =>
    obtain ⟨k, hk, rfl, hno, hB1⟩ := hrel
    obtain ⟨V20, rfl⟩ : ∃ V, V = wr := ⟨_, rfl⟩
    have hR := HA.out.below hB1 (Nat.le_refl _)
    have B20 := Lib.hid hB1
    clear hB1
    by_cases hlt : k < T.length
    · obtain ⟨b, o, rfl, hb, hc⟩ := hR.lin hlt
      obtain ⟨a0, a1, a2, a3, a4, a5, a6, a7, a8, a9, a10, a11, a12⟩ := hc k hlt
      have HC := Lib.hid (HH.out T[k] (by simp) V20 (kx_keep HK B20.out))
      have hyes : Hid (p T[k] = true → T.any p = true) := Lib.hid (fun h => List.any_eq_true.2 ⟨T[k], by simp, h⟩)
      have hno2 : Hid (p T[k] = false → ∀ j (h : j < T.length), j < k + 1 → p T[j] = false) := Lib.hid (fun e j h hj => by
        by_cases hjk : j = k
        · subst hjk; exact e
        · exact hno.out j h (by omega))
      clear hc hR HH
      obtain ⟨l, hTk⟩ : ∃ l, T[k] = l := ⟨_, rfl⟩
      rw [hTk] at a0 a1 a2 a3 a4 a5 a6 a7 a8 a9 a10 a11 a12 HC hyes hno2
      replace hTk := Lib.hid hTk
      obtain ⟨l0, l1, l2, l3, l4, l5, l6, l7, l8, l9, l10, l11, l12⟩ := l
      simp only at a0 a1 a2 a3 a4 a5 a6 a7 a8 a9 a10 a11 a12
      unfold linA at HC
      have hwk : IntKind.i64.wrap ((k : Int) + 1) = (k : Int) + 1 := wrap_small _ (by omega) (by omega)
      generalize hp : p _ = pb at HC hyes hno2
      
      cases pb
      · go_wp2_with fail
        refine HC.out.mono ?_
        rintro e w5 ⟨rfl, hb5⟩
        have B5 := Lib.hid (B20.out.trans (hb5.mono B20.out.size))
        have hno3 := Lib.hid (hno2.out (by first | trivial | rfl))
        clear hb5 HC hno hno2 hyes
        go_wp2
        go_roundw
        case rel => exact ⟨k + 1, by omega, by go_num, Lib.hid (fun j h hj => hno3.out j (by omega) hj), B5.out⟩
        case measure => simp [intOf]; omega
      · go_wp2_with fail
        refine HC.out.mono ?_
        rintro e w5 ⟨rfl, hb5⟩
        have B5 := Lib.hid (B20.out.trans (hb5.mono B20.out.size))
        clear hb5 HC hno hno2
        go_wp2
        go_ret
        exact ⟨⟨(k : Int), rfl, fun _ => hyes.out (by first | trivial | rfl), fun _ => by omega⟩, B5.out⟩
    · obtain rfl : k = T.length := by omega
      have hany : Hid (T.any p = false) := Lib.hid (by
        rw [List.any_eq_false]
        intro x hx
        obtain ⟨j, hj, rfl⟩ := List.mem_iff_getElem.1 hx
        rw [hno.out j hj hj]
        decide)
      clear hR
      
      go_wp2
      go_ret
      exact ⟨⟨-1, rfl, fun h => absurd h (by decide), fun h => by rw [hany.out] at h; cases h⟩, B20.out⟩
set_option maxHeartbeats 1600000 in
set_option maxRecDepth 100000 in
theorem pContains_mn (p : Lin → Bool) (T : List Lin) (hH : ∀ l ∈ T, ∀ w, KX w → Calls Tryz.prog 22 #[linA l] w fun e w' => e = .returned (.bool (p l)) ∧ Below w.heap.size w w') (hl : T.length ≤ 9223372036854775807) (A : Option Addr) (c : Nat) (w : World) (hK : KX w) (hR : Rd w A (linVs T)) :
    Calls Tryz.prog 20 #[.slice A T.length c, .func (.func 22) #[] #[]] w fun e w' => e = .returned (.bool (T.any p)) ∧ Below w.heap.size w w' := by
  have H := Lib.hid (pIndex_mn p T hH hl A c w hK hR)
  clear hH
  generalize T.length = N at *
  generalize T.any p = B at *
  go_enter Tryz.func20, Tryz.ntmps20
  go_wp2_with fail
  refine H.out.mono ?_
  rintro e w1 ⟨⟨i, rfl, hi⟩, hb⟩
  replace hb := Lib.hid hb
  have hE : Hid (decide (0 ≤ i) = B) := Lib.hid (by
    cases B
    · exact decide_eq_false (fun h => by have := hi.1 h; cases this)
    · exact decide_eq_true (hi.2 rfl))
  clear hi
  go_wp2
  go_ret
  exact ⟨by rw [← hE.out]; try rfl, hb.out⟩
set_option maxHeartbeats 3200000 in
set_option maxRecDepth 100000 in
theorem pIndex_fl (p : Lin → Bool) (T : List Lin) (hH : ∀ l ∈ T, ∀ w, KX w → Calls Tryz.prog 24 #[linA l] w fun e w' => e = .returned (.bool (p l)) ∧ Below w.heap.size w w') (hl : T.length ≤ 9223372036854775807) (A : Option Addr) (c : Nat) (w : World) (hK : KX w) (hR : Rd w A (linVs T)) :
    Calls Tryz.prog 41 #[.slice A T.length c, .func (.func 24) #[] #[]] w fun e w' => (∃ i : Int, e = .returned (.int .i64 i) ∧ (0 ≤ i ↔ T.any p = true)) ∧ Below w.heap.size w w' := by
  have HA := Lib.hid hR
  have HK := Lib.hid hK
  have HH := Lib.hid hH
  clear hR hK hH
  go_enter Tryz.func41, Tryz.ntmps41
  go_wp2
  go_loopw [8] (fun i wr => ∃ k : Nat, k ≤ T.length ∧ i = .int .i64 (k : Int) ∧ Hid (∀ j (h : j < T.length), j < k → p T[j] = false) ∧ Below w.heap.size w wr) (fun i _ => T.length - (intOf i).toNat)
  case atStart => exact ⟨0, by omega, rfl, Lib.hid (fun j _ h => by omega), Below.refl _ _⟩
  case round =>
    obtain ⟨k, hk, rfl, hno, hB1⟩ := hrel
    obtain ⟨V20, rfl⟩ : ∃ V, V = wr := ⟨_, rfl⟩
    have hR := HA.out.below hB1 (Nat.le_refl _)
    have B20 := Lib.hid hB1
    clear hB1
    by_cases hlt : k < T.length
    · obtain ⟨b, o, rfl, hb, hc⟩ := hR.lin hlt
      obtain ⟨a0, a1, a2, a3, a4, a5, a6, a7, a8, a9, a10, a11, a12⟩ := hc k hlt
      have HC := Lib.hid (HH.out T[k] (by simp) V20 (kx_keep HK B20.out))
      have hyes : Hid (p T[k] = true → T.any p = true) := Lib.hid (fun h => List.any_eq_true.2 ⟨T[k], by simp, h⟩)
      have hno2 : Hid (p T[k] = false → ∀ j (h : j < T.length), j < k + 1 → p T[j] = false) := Lib.hid (fun e j h hj => by
        by_cases hjk : j = k
        · subst hjk; exact e
        · exact hno.out j h (by omega))
      clear hc hR HH
      obtain ⟨l, hTk⟩ : ∃ l, T[k] = l := ⟨_, rfl⟩
      rw [hTk] at a0 a1 a2 a3 a4 a5 a6 a7 a8 a9 a10 a11 a12 HC hyes hno2
      replace hTk := Lib.hid hTk
      obtain ⟨l0, l1, l2, l3, l4, l5, l6, l7, l8, l9, l10, l11, l12⟩ := l
      simp only at a0 a1 a2 a3 a4 a5 a6 a7 a8 a9 a10 a11 a12
      unfold linA at HC
      have hwk : IntKind.i64.wrap ((k : Int) + 1) = (k : Int) + 1 := wrap_small _ (by omega) (by omega)
      generalize hp : p _ = pb at HC hyes hno2
      
      cases pb
      · go_wp2_with fail
        refine HC.out.mono ?_
        rintro e w5 ⟨rfl, hb5⟩
        have B5 := Lib.hid (B20.out.trans (hb5.mono B20.out.size))
        have hno3 := Lib.hid (hno2.out (by first | trivial | rfl))
        clear hb5 HC hno hno2 hyes
        go_wp2
        go_roundw
        case rel => exact ⟨k + 1, by omega, by go_num, Lib.hid (fun j h hj => hno3.out j (by omega) hj), B5.out⟩
        case measure => simp [intOf]; omega
      · go_wp2_with fail
        refine HC.out.mono ?_
        rintro e w5 ⟨rfl, hb5⟩
        have B5 := Lib.hid (B20.out.trans (hb5.mono B20.out.size))
        clear hb5 HC hno hno2
        go_wp2
        go_ret
        exact ⟨⟨(k : Int), rfl, fun _ => hyes.out (by first | trivial | rfl), fun _ => by omega⟩, B5.out⟩
    · obtain rfl : k = T.length := by omega
      have hany : Hid (T.any p = false) := Lib.hid (by
        rw [List.any_eq_false]
        intro x hx
        obtain ⟨j, hj, rfl⟩ := List.mem_iff_getElem.1 hx
        rw [hno.out j hj hj]
        decide)
      clear hR
      
      go_wp2
      go_ret
      exact ⟨⟨-1, rfl, fun h => absurd h (by decide), fun h => by rw [hany.out] at h; cases h⟩, B20.out⟩
set_option maxHeartbeats 1600000 in
set_option maxRecDepth 100000 in
theorem pContains_fl (p : Lin → Bool) (T : List Lin) (hH : ∀ l ∈ T, ∀ w, KX w → Calls Tryz.prog 24 #[linA l] w fun e w' => e = .returned (.bool (p l)) ∧ Below w.heap.size w w') (hl : T.length ≤ 9223372036854775807) (A : Option Addr) (c : Nat) (w : World) (hK : KX w) (hR : Rd w A (linVs T)) :
    Calls Tryz.prog 20 #[.slice A T.length c, .func (.func 24) #[] #[]] w fun e w' => e = .returned (.bool (T.any p)) ∧ Below w.heap.size w w' := by
  have H := Lib.hid (pIndex_fl p T hH hl A c w hK hR)
  clear hH
  generalize T.length = N at *
  generalize T.any p = B at *
  go_enter Tryz.func20, Tryz.ntmps20
  go_wp2_with fail
  refine H.out.mono ?_
  rintro e w1 ⟨⟨i, rfl, hi⟩, hb⟩
  replace hb := Lib.hid hb
  have hE : Hid (decide (0 ≤ i) = B) := Lib.hid (by
    cases B
    · exact decide_eq_false (fun h => by have := hi.1 h; cases this)
    · exact decide_eq_true (hi.2 rfl))
  clear hi
  go_wp2
  go_ret
  exact ⟨by rw [← hE.out]; try rfl, hb.out⟩
noncomputable def ckP (z : Src) : Int :=
  if 16 < z.lns.length ∨ 4 < tailP z.lns then 1 else if namE z.nam ≠ 0 ∨ badAb z.abb = true ∨ z.lns.any (fun l => badAb l.abb) = true then 2
  else if z.dst = true ∨ z.lns.any notB = true then 5 else if (!inI z.off (-64800) 64800) = true ∨ z.lns.any farB = true then 8 else 0
theorem badAb_iff (t : List UInt8) : badAb t = false ↔ abbE t = 0 := by unfold badAb; simp
theorem farB_iff (l : Lin) : farB l = false ↔ ((-64800 ≤ l.off ∧ l.off ≤ 64800) ∧ (-377705116800 ≤ l.s ∧ l.s ≤ 253402300799)) := by
  unfold farB
  rw [Bool.or_eq_false_iff, Bool.not_eq_false', Bool.not_eq_false', inI_iff, inI_iff]
theorem okL_iff (l : Lin) : OkL l ↔ (LineMay l ∧ badAb l.abb = false ∧ farB l = false) := by
  rw [badAb_iff, farB_iff]
  unfold OkL OkT LineMay AtOk RuOk
  rw [yeB_iff]
  constructor
  · rintro ⟨h | h, o1, o2, o3⟩
    · obtain ⟨a, b, c, d, e, f, g, i, j, k, m⟩ := h
      exact ⟨Or.inl ⟨a, b, c, d, e, f, g, i, j⟩, o3, ⟨o1, o2⟩, k, m⟩
    · obtain ⟨a, b, c, c', d, e, e', f, g, g', i, i'⟩ := h
      exact ⟨Or.inr ⟨a, b, ⟨⟨c, c'⟩, d⟩, ⟨e, e'⟩, f, ⟨g, g'⟩, i, i'⟩, o3, ⟨o1, o2⟩, by omega, by omega⟩
  · rintro ⟨h | h, o3, ⟨o1, o2⟩, k, m⟩
    · obtain ⟨a, b, c, d, e, f, g, i, j⟩ := h
      exact ⟨Or.inl ⟨a, b, c, d, e, f, g, i, j, k, m⟩, o1, o2, o3⟩
    · obtain ⟨a, b, ⟨⟨c, c'⟩, d⟩, ⟨e, e'⟩, f, ⟨g, g'⟩, i, i'⟩ := h
      exact ⟨Or.inr ⟨a, b, c, c', d, e, e', f, g, g', i, i'⟩, o1, o2, o3⟩
theorem any_no {p : Lin → Bool} {T : List Lin} : T.any p = false ↔ ∀ l ∈ T, p l = false := by
  rw [List.any_eq_false]
  constructor
  · intro h l hl
    have := h l hl
    simpa using this
  · intro h l hl
    rw [h l hl]
    decide
theorem ckP_zero (z : Src) : ckP z = 0 ↔ OkS z := by
  have key : (¬ (namE z.nam ≠ 0 ∨ badAb z.abb = true ∨ z.lns.any (fun l => badAb l.abb) = true) ∧ ¬ (z.dst = true ∨ z.lns.any notB = true) ∧ ¬ ((!inI z.off (-64800) 64800) = true ∨ z.lns.any farB = true)) ↔ (namE z.nam = 0 ∧ OkT z.off z.abb ∧ z.dst = false ∧ ∀ l ∈ z.lns, OkL l) := by
    unfold OkT
    constructor
    · rintro ⟨h1, h2, h3⟩
      have a1 : z.lns.any (fun l => badAb l.abb) = false := by rw [Bool.eq_false_iff]; exact fun e => h1 (Or.inr (Or.inr e))
      have a2 : z.lns.any notB = false := by rw [Bool.eq_false_iff]; exact fun e => h2 (Or.inr e)
      have a3 : z.lns.any farB = false := by rw [Bool.eq_false_iff]; exact fun e => h3 (Or.inr e)
      have b1 : badAb z.abb = false := by rw [Bool.eq_false_iff]; exact fun e => h1 (Or.inr (Or.inl e))
      have b2 : inI z.off (-64800) 64800 = true := by
        cases q : inI z.off (-64800) 64800
        · exact absurd (Or.inl (by rw [q]; rfl)) h3
        · rfl
      rw [inI_iff] at b2
      refine ⟨Classical.byContradiction fun e => h1 (Or.inl e), ⟨b2.1, b2.2, (badAb_iff _).1 b1⟩, by rw [Bool.eq_false_iff]; exact fun e => h2 (Or.inl e), fun l hl => (okL_iff l).2 ⟨(notB_iff l).1 (any_no.1 a2 l hl), any_no.1 a1 l hl, any_no.1 a3 l hl⟩⟩
    · rintro ⟨h1, ⟨o1, o2, o3⟩, h3, h4⟩
      have a1 : z.lns.any (fun l => badAb l.abb) = false := any_no.2 fun l hl => ((okL_iff l).1 (h4 l hl)).2.1
      have a2 : z.lns.any notB = false := any_no.2 fun l hl => (notB_iff l).2 ((okL_iff l).1 (h4 l hl)).1
      have a3 : z.lns.any farB = false := any_no.2 fun l hl => ((okL_iff l).1 (h4 l hl)).2.2
      have b1 : badAb z.abb = false := (badAb_iff _).2 o3
      have b2 : inI z.off (-64800) 64800 = true := (inI_iff _ _ _).2 ⟨o1, o2⟩
      refine ⟨?_, ?_, ?_⟩
      · rw [a1, b1]
        rintro (e | e | e)
        · exact e h1
        · cases e
        · cases e
      · rw [a2, h3]
        rintro (e | e) <;> cases e
      · rw [a3, b2]
        rintro (e | e) <;> cases e
  unfold ckP
  constructor
  · intro h
    split at h
    · exact absurd h (by decide)
    · rename_i h0
      split at h
      · exact absurd h (by decide)
      · rename_i h1
        split at h
        · exact absurd h (by decide)
        · rename_i h2
          split at h
          · exact absurd h (by decide)
          · rename_i h3
            obtain ⟨a, b, c, d⟩ := key.1 ⟨h1, h2, h3⟩
            have := tail_eq d
            exact ⟨by omega, by omega, a, b, c, d⟩
  · rintro ⟨a, b, c, d, e, f⟩
    obtain ⟨h1, h2, h3⟩ := key.2 ⟨c, d, e, f⟩
    have := tail_eq f
    rw [if_neg (by omega), if_neg h1, if_neg h2, if_neg h3]
end Go.Proofs.YteinjdmkmfeniaaGreatDoor
