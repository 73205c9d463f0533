/- Several texts in one: YrD. -/
import Derived.Test.YtafecnlaodgmkaaGreatDoorY2Sm
import Derived.Test.YtafecnlaodgmkaaGreatDoorY2Yr1
namespace Go.Proofs.YtafecnlaodgmkaaGreatDoor
set_option linter.unusedVariables false
set_option linter.unusedSimpArgs false
open Go.ChangeShapes Go.WideShapes Go.ChangeAt Go.RowKit
set_option maxHeartbeats 1600000 in
set_option maxRecDepth 100000 in
theorem yKind_0 (w : World) : Calls Tryz.prog 74 #[.int .i64 0] w fun e w' => e = .returned (.tuple #[.agg #[.bool true, .bool false, .func (.func 101) #[] #[], .func (.func 102) #[] #[]], .bool true]) ∧ Below w.heap.size w w' := by
  go_enter Tryz.func74, Tryz.ntmps74
  refine wp_shut ?_
  have hg0 := heap_alloc_new w (.cells #[.bool false, .bool false, .nilFunc, .nilFunc] 121)
  go_wp2_with (refine wpList_store_row (by rfl) 121 _ _ (by rfl) w.heap.size #[.bool true, .bool false, .func (.func 101) #[] #[], .func (.func 102) #[] #[]] (by rfl) (by rfl) 121 _ hg0 (by kernel_rfl) (by rfl) (by simp [Value.oneCell']) ?_; rw [World.setRow_alloc_new]; clear hg0)
  refine shut_ret (v := .tuple #[.agg #[.bool true, .bool false, .func (.func 101) #[] #[], .func (.func 102) #[] #[]], .bool true]) (by simp [results, Tryz.results74, go_sem]) rfl ⟨rfl, ?_⟩
  exact (Below.refl _ _).alloc (Nat.le_refl _) _
set_option maxHeartbeats 1600000 in
set_option maxRecDepth 100000 in
theorem yKind_1 (w : World) : Calls Tryz.prog 74 #[.int .i64 1] w fun e w' => e = .returned (.tuple #[.agg #[.bool false, .bool true, .func (.func 103) #[] #[], .func (.func 104) #[] #[]], .bool true]) ∧ Below w.heap.size w w' := by
  go_enter Tryz.func74, Tryz.ntmps74
  refine wp_shut ?_
  have hg0 := heap_alloc_new w (.cells #[.bool false, .bool false, .nilFunc, .nilFunc] 121)
  go_wp2_with (refine wpList_store_row (by rfl) 121 _ _ (by rfl) w.heap.size #[.bool false, .bool true, .func (.func 103) #[] #[], .func (.func 104) #[] #[]] (by rfl) (by rfl) 121 _ hg0 (by kernel_rfl) (by rfl) (by simp [Value.oneCell']) ?_; rw [World.setRow_alloc_new]; clear hg0)
  refine shut_ret (v := .tuple #[.agg #[.bool false, .bool true, .func (.func 103) #[] #[], .func (.func 104) #[] #[]], .bool true]) (by simp [results, Tryz.results74, go_sem]) rfl ⟨rfl, ?_⟩
  exact (Below.refl _ _).alloc (Nat.le_refl _) _
set_option maxHeartbeats 1600000 in
set_option maxRecDepth 100000 in
theorem yKind_2 (w : World) : Calls Tryz.prog 74 #[.int .i64 2] w fun e w' => e = .returned (.tuple #[.agg #[.bool true, .bool true, .func (.func 103) #[] #[], .func (.func 105) #[] #[]], .bool true]) ∧ Below w.heap.size w w' := by
  go_enter Tryz.func74, Tryz.ntmps74
  refine wp_shut ?_
  have hg0 := heap_alloc_new w (.cells #[.bool false, .bool false, .nilFunc, .nilFunc] 121)
  go_wp2_with (refine wpList_store_row (by rfl) 121 _ _ (by rfl) w.heap.size #[.bool true, .bool true, .func (.func 103) #[] #[], .func (.func 105) #[] #[]] (by rfl) (by rfl) 121 _ hg0 (by kernel_rfl) (by rfl) (by simp [Value.oneCell']) ?_; rw [World.setRow_alloc_new]; clear hg0)
  refine shut_ret (v := .tuple #[.agg #[.bool true, .bool true, .func (.func 103) #[] #[], .func (.func 105) #[] #[]], .bool true]) (by simp [results, Tryz.results74, go_sem]) rfl ⟨rfl, ?_⟩
  exact (Below.refl _ _).alloc (Nat.le_refl _) _
set_option maxHeartbeats 1600000 in
set_option maxRecDepth 100000 in
theorem yKind_3 (w : World) : Calls Tryz.prog 74 #[.int .i64 3] w fun e w' => e = .returned (.tuple #[.agg #[.bool true, .bool true, .func (.func 103) #[] #[], .func (.func 106) #[] #[]], .bool true]) ∧ Below w.heap.size w w' := by
  go_enter Tryz.func74, Tryz.ntmps74
  refine wp_shut ?_
  have hg0 := heap_alloc_new w (.cells #[.bool false, .bool false, .nilFunc, .nilFunc] 121)
  go_wp2_with (refine wpList_store_row (by rfl) 121 _ _ (by rfl) w.heap.size #[.bool true, .bool true, .func (.func 103) #[] #[], .func (.func 106) #[] #[]] (by rfl) (by rfl) 121 _ hg0 (by kernel_rfl) (by rfl) (by simp [Value.oneCell']) ?_; rw [World.setRow_alloc_new]; clear hg0)
  refine shut_ret (v := .tuple #[.agg #[.bool true, .bool true, .func (.func 103) #[] #[], .func (.func 106) #[] #[]], .bool true]) (by simp [results, Tryz.results74, go_sem]) rfl ⟨rfl, ?_⟩
  exact (Below.refl _ _).alloc (Nat.le_refl _) _
set_option maxHeartbeats 1600000 in
set_option maxRecDepth 100000 in
theorem yKind_no (k : Int) (h0 : (k == 0) = false) (h1 : (k == 1) = false) (h2 : (k == 2) = false) (h3 : (k == 3) = false) (w : World) : Calls Tryz.prog 74 #[.int .i64 k] w fun e w' => e = .returned (.tuple #[.agg #[.bool false, .bool false, .nilFunc, .nilFunc], .bool false]) ∧ Below w.heap.size w w' := by
  go_enter Tryz.func74, Tryz.ntmps74
  refine wp_shut ?_
  have hg0 := heap_alloc_new w (.cells #[.bool false, .bool false, .nilFunc, .nilFunc] 121)
  go_wp2_with (refine wpList_store_row (by rfl) 121 _ _ (by rfl) w.heap.size #[.bool false, .bool false, .nilFunc, .nilFunc] (by rfl) (by rfl) 121 _ hg0 (by kernel_rfl) (by rfl) (by simp [Value.oneCell']) ?_; rw [World.setRow_alloc_new]; clear hg0)
  refine shut_ret (v := .tuple #[.agg #[.bool false, .bool false, .nilFunc, .nilFunc], .bool false]) (by simp [results, Tryz.results74, go_sem]) rfl ⟨rfl, ?_⟩
  exact (Below.refl _ _).alloc (Nat.le_refl _) _
set_option maxHeartbeats 3200000 in
set_option maxRecDepth 100000 in
theorem pYr_no (k n wd y m : Int) (h0 : ¬ k = 0) (h1 : ¬ k = 1) (h2 : ¬ k = 2) (h3 : ¬ k = 3) (w : World) (hM : MD w) : Calls Tryz.prog 55 #[.agg #[.int .i64 k, .int .i64 n, .int .i64 wd], .int .i64 y, .int .i64 m] w fun e w' => e = .returned (.tuple #[.int .i64 (yrV k n wd y m), .int .i64 (yrE k n wd y m)]) ∧ Below w.heap.size w w' := by
  have hm : mayD k n wd = false := by unfold mayD; rw [if_neg h0, if_neg h1, if_neg (by omega)]
  have E := Lib.hid (yr_bad (k := k) (n := n) (w := wd) (y := y) (m := m) (Or.inl hm))
  have H1 := Lib.hid (yKind_no k (beq_eq_false_iff_ne.2 h0) (beq_eq_false_iff_ne.2 h1) (beq_eq_false_iff_ne.2 h2) (beq_eq_false_iff_ne.2 h3))
  have H2 := Lib.hid (fun w h => grow_of (pMonthDays_p y m w h))
  generalize mdI y m = M at *
  replace hM := Lib.hid hM
  clear h0 h1 h2 h3 hm
  go_enter Tryz.func55, Tryz.ntmps55
  go_wp2_with fail
  
  refine (H1.out _).mono ?_
  rintro e V1 ⟨rfl, hb1⟩
  have B1 := nby hb1
  have A1 := Lib.hid (row_call hb1 (heap_alloc_new _ _))
  clear hb1
  obtain ⟨A1_0, A1_1, A1_2⟩ := qw3 A1
  have zA1 := lt_of_heap A1.out
  go_simp
  have hg0 := heap_alloc_new V1 (.cells #[.bool false, .bool false, .nilFunc, .nilFunc] 121)
  go_wp2_with (refine wpList_store_row (by rfl) 121 _ _ (by rfl) V1.heap.size #[.bool false, .bool false, .nilFunc, .nilFunc] (by rfl) (by rfl) 121 _ hg0 (by kernel_rfl) (by rfl) (by simp [Value.oneCell']) ?_; rw [World.setRow_alloc_new]; clear hg0)
  refine (H2.out _ (by first | exact md_keep hM ((B1.out).alloc (B1.out.size) _))).mono ?_
  rintro e V2 ⟨rfl, hb2⟩
  clear A1_0 A1_1 A1_2 zA1
  have nA1K1 := Lib.hid (lt_of_heap A1.out)
  have B2 := Lib.hid (((B1.out).alloc (B1.out.size) _).trans (hb2.mono (by have := B1.out.size; first | assumption | (simp <;> omega) | (simp; done))))
  replace A1 := Lib.hid (row_call hb2 (row_alloc A1.out _))
  have K1 := Lib.hid (row_call hb2 (heap_alloc_new _ _))
  clear hb2
  obtain ⟨A1_0, A1_1, A1_2⟩ := qw3 A1
  obtain ⟨K1_0, K1_1, K1_2, K1_3⟩ := qw4 K1
  have zA1 := lt_of_heap A1.out
  have zK1 := lt_of_heap K1.out
  go_simp
  go_wp2
  go_ret2
  exact ⟨by rw [E.out.1, E.out.2]; try rfl, B2.out⟩
set_option maxHeartbeats 6400000 in
set_option maxRecDepth 100000 in
theorem pYrW_0 (n wd y m F M R v er : Int) (t u q x : Bool) (hv : v = if t = true then (if u = true then (if q = true then 0 else if x = true then R else 0) else 0) else 0) (he : er = if t = true then (if u = true then (if q = true then 7 else if x = true then 0 else 8) else 5) else 5)
    (H2 : Hid (∀ w, MD w → Calls Tryz.prog 75 #[.int .i64 y, .int .i64 m] w fun e w' => e = .returned (.int .i64 M) ∧ Below w.heap.size w w'))
    (H3 : Hid (∀ w, Calls Tryz.prog 76 #[.agg #[.bool true, .bool false, .func (.func 101) #[] #[], .func (.func 102) #[] #[]], .agg #[.int .i64 0, .int .i64 n, .int .i64 wd]] w fun e w' => e = .returned (.bool t) ∧ Below w.heap.size w w'))
    (H4 : Hid (∀ w, Calls Tryz.prog 77 #[.int .i64 m, .int .i64 1, .int .i64 12] w fun e w' => e = .returned (.bool u) ∧ Below w.heap.size w w'))
    (H5 : Hid (∀ w, Calls Tryz.prog 101 #[.agg #[.int .i64 0, .int .i64 n, .int .i64 wd], .int .i64 M] w fun e w' => e = .returned (.bool q) ∧ Below w.heap.size w w'))
    (H6 : Hid (∀ w, Calls Tryz.prog 77 #[.int .i64 y, .int .i64 (-9999), .int .i64 10000] w fun e w' => e = .returned (.bool x) ∧ Below w.heap.size w w'))
    (H7 : t = true → u = true → x = true → Hid (∀ w, MD w → Calls Tryz.prog 78 #[.int .i64 y, .int .i64 m] w fun e w' => e = .returned (.int .i64 F) ∧ Below w.heap.size w w'))
    (H8 : t = true → u = true → x = true → Hid (∀ w, Calls Tryz.prog 102 #[.agg #[.int .i64 0, .int .i64 n, .int .i64 wd], .agg #[.int .i64 F, .int .i64 M]] w fun e w' => e = .returned (.int .i64 R) ∧ Below w.heap.size w w'))
    (w : World) (hM : MD w) : Calls Tryz.prog 55 #[.agg #[.int .i64 0, .int .i64 n, .int .i64 wd], .int .i64 y, .int .i64 m] w fun e w' => e = .returned (.tuple #[.int .i64 v, .int .i64 er]) ∧ Below w.heap.size w w' := by
  have H1 := Lib.hid yKind_0
  replace hM := Lib.hid hM
  replace hv := Lib.hid hv
  replace he := Lib.hid he
  cases t
  · clear H4 H5 H6 H7 H8
    go_enter Tryz.func55, Tryz.ntmps55
    go_wp2_with fail
    
    refine (H1.out _).mono ?_
    rintro e V1 ⟨rfl, hb1⟩
    have B1 := nby hb1
    have A1 := Lib.hid (row_call hb1 (heap_alloc_new _ _))
    clear hb1
    obtain ⟨A1_0, A1_1, A1_2⟩ := qw3 A1
    have zA1 := lt_of_heap A1.out
    go_simp
    have hg0 := heap_alloc_new V1 (.cells #[.bool false, .bool false, .nilFunc, .nilFunc] 121)
    go_wp2_with (refine wpList_store_row (by rfl) 121 _ _ (by rfl) V1.heap.size #[.bool true, .bool false, .func (.func 101) #[] #[], .func (.func 102) #[] #[]] (by rfl) (by rfl) 121 _ hg0 (by kernel_rfl) (by rfl) (by simp [Value.oneCell']) ?_; rw [World.setRow_alloc_new]; clear hg0)
    refine (H2.out _ (by first | exact md_keep hM ((B1.out).alloc (B1.out.size) _))).mono ?_
    rintro e V2 ⟨rfl, hb2⟩
    clear A1_0 A1_1 A1_2 zA1
    have nA1K1 := Lib.hid (lt_of_heap A1.out)
    have B2 := Lib.hid (((B1.out).alloc (B1.out.size) _).trans (hb2.mono (by have := B1.out.size; first | assumption | (simp <;> omega) | (simp; done))))
    replace A1 := Lib.hid (row_call hb2 (row_alloc A1.out _))
    have K1 := Lib.hid (row_call hb2 (heap_alloc_new _ _))
    clear hb2
    obtain ⟨A1_0, A1_1, A1_2⟩ := qw3 A1
    obtain ⟨K1_0, K1_1, K1_2, K1_3⟩ := qw4 K1
    have zA1 := lt_of_heap A1.out
    have zK1 := lt_of_heap K1.out
    go_simp
    go_wp2_with fail
    refine (H3.out _).mono ?_
    rintro e V3 ⟨rfl, hb3⟩
    clear A1_0 A1_1 A1_2 zA1 K1_0 K1_1 K1_2 K1_3 zK1
    have B3 : Hid (Below w.heap.size w V3) := nbx B2 hb3
    replace A1 := rcx hb3 A1
    replace K1 := rcx hb3 K1
    clear hb3
    obtain ⟨A1_0, A1_1, A1_2⟩ := qw3 A1
    obtain ⟨K1_0, K1_1, K1_2, K1_3⟩ := qw4 K1
    have zA1 := lt_of_heap A1.out
    have zK1 := lt_of_heap K1.out
    go_simp
    go_wp2
    go_ret2
    exact ⟨by rw [hv.out, he.out]; rfl, B3.out⟩
  · cases u
    · clear H5 H6 H7 H8
      go_enter Tryz.func55, Tryz.ntmps55
      go_wp2_with fail
      
      refine (H1.out _).mono ?_
      rintro e V1 ⟨rfl, hb1⟩
      have B1 := nby hb1
      have A1 := Lib.hid (row_call hb1 (heap_alloc_new _ _))
      clear hb1
      obtain ⟨A1_0, A1_1, A1_2⟩ := qw3 A1
      have zA1 := lt_of_heap A1.out
      go_simp
      have hg0 := heap_alloc_new V1 (.cells #[.bool false, .bool false, .nilFunc, .nilFunc] 121)
      go_wp2_with (refine wpList_store_row (by rfl) 121 _ _ (by rfl) V1.heap.size #[.bool true, .bool false, .func (.func 101) #[] #[], .func (.func 102) #[] #[]] (by rfl) (by rfl) 121 _ hg0 (by kernel_rfl) (by rfl) (by simp [Value.oneCell']) ?_; rw [World.setRow_alloc_new]; clear hg0)
      refine (H2.out _ (by first | exact md_keep hM ((B1.out).alloc (B1.out.size) _))).mono ?_
      rintro e V2 ⟨rfl, hb2⟩
      clear A1_0 A1_1 A1_2 zA1
      have nA1K1 := Lib.hid (lt_of_heap A1.out)
      have B2 := Lib.hid (((B1.out).alloc (B1.out.size) _).trans (hb2.mono (by have := B1.out.size; first | assumption | (simp <;> omega) | (simp; done))))
      replace A1 := Lib.hid (row_call hb2 (row_alloc A1.out _))
      have K1 := Lib.hid (row_call hb2 (heap_alloc_new _ _))
      clear hb2
      obtain ⟨A1_0, A1_1, A1_2⟩ := qw3 A1
      obtain ⟨K1_0, K1_1, K1_2, K1_3⟩ := qw4 K1
      have zA1 := lt_of_heap A1.out
      have zK1 := lt_of_heap K1.out
      go_simp
      go_wp2_with fail
      refine (H3.out _).mono ?_
      rintro e V3 ⟨rfl, hb3⟩
      clear A1_0 A1_1 A1_2 zA1 K1_0 K1_1 K1_2 K1_3 zK1
      have B3 : Hid (Below w.heap.size w V3) := nbx B2 hb3
      replace A1 := rcx hb3 A1
      replace K1 := rcx hb3 K1
      clear hb3
      obtain ⟨A1_0, A1_1, A1_2⟩ := qw3 A1
      obtain ⟨K1_0, K1_1, K1_2, K1_3⟩ := qw4 K1
      have zA1 := lt_of_heap A1.out
      have zK1 := lt_of_heap K1.out
      go_simp
      go_wp2_with fail
      refine (H4.out _).mono ?_
      rintro e V4 ⟨rfl, hb4⟩
      clear A1_0 A1_1 A1_2 zA1 K1_0 K1_1 K1_2 K1_3 zK1
      have B4 : Hid (Below w.heap.size w V4) := nbx B3 hb4
      replace A1 := rcx hb4 A1
      replace K1 := rcx hb4 K1
      clear hb4
      obtain ⟨A1_0, A1_1, A1_2⟩ := qw3 A1
      obtain ⟨K1_0, K1_1, K1_2, K1_3⟩ := qw4 K1
      have zA1 := lt_of_heap A1.out
      have zK1 := lt_of_heap K1.out
      go_simp
      go_wp2
      go_ret2
      exact ⟨by rw [hv.out, he.out]; rfl, B4.out⟩
    · cases q
      · cases x
        · clear H7 H8
          go_enter Tryz.func55, Tryz.ntmps55
          go_wp2_with fail
          
          refine (H1.out _).mono ?_
          rintro e V1 ⟨rfl, hb1⟩
          have B1 := nby hb1
          have A1 := Lib.hid (row_call hb1 (heap_alloc_new _ _))
          clear hb1
          obtain ⟨A1_0, A1_1, A1_2⟩ := qw3 A1
          have zA1 := lt_of_heap A1.out
          go_simp
          have hg0 := heap_alloc_new V1 (.cells #[.bool false, .bool false, .nilFunc, .nilFunc] 121)
          go_wp2_with (refine wpList_store_row (by rfl) 121 _ _ (by rfl) V1.heap.size #[.bool true, .bool false, .func (.func 101) #[] #[], .func (.func 102) #[] #[]] (by rfl) (by rfl) 121 _ hg0 (by kernel_rfl) (by rfl) (by simp [Value.oneCell']) ?_; rw [World.setRow_alloc_new]; clear hg0)
          refine (H2.out _ (by first | exact md_keep hM ((B1.out).alloc (B1.out.size) _))).mono ?_
          rintro e V2 ⟨rfl, hb2⟩
          clear A1_0 A1_1 A1_2 zA1
          have nA1K1 := Lib.hid (lt_of_heap A1.out)
          have B2 := Lib.hid (((B1.out).alloc (B1.out.size) _).trans (hb2.mono (by have := B1.out.size; first | assumption | (simp <;> omega) | (simp; done))))
          replace A1 := Lib.hid (row_call hb2 (row_alloc A1.out _))
          have K1 := Lib.hid (row_call hb2 (heap_alloc_new _ _))
          clear hb2
          obtain ⟨A1_0, A1_1, A1_2⟩ := qw3 A1
          obtain ⟨K1_0, K1_1, K1_2, K1_3⟩ := qw4 K1
          have zA1 := lt_of_heap A1.out
          have zK1 := lt_of_heap K1.out
          go_simp
          go_wp2_with fail
          refine (H3.out _).mono ?_
          rintro e V3 ⟨rfl, hb3⟩
          clear A1_0 A1_1 A1_2 zA1 K1_0 K1_1 K1_2 K1_3 zK1
          have B3 : Hid (Below w.heap.size w V3) := nbx B2 hb3
          replace A1 := rcx hb3 A1
          replace K1 := rcx hb3 K1
          clear hb3
          obtain ⟨A1_0, A1_1, A1_2⟩ := qw3 A1
          obtain ⟨K1_0, K1_1, K1_2, K1_3⟩ := qw4 K1
          have zA1 := lt_of_heap A1.out
          have zK1 := lt_of_heap K1.out
          go_simp
          go_wp2_with fail
          refine (H4.out _).mono ?_
          rintro e V4 ⟨rfl, hb4⟩
          clear A1_0 A1_1 A1_2 zA1 K1_0 K1_1 K1_2 K1_3 zK1
          have B4 : Hid (Below w.heap.size w V4) := nbx B3 hb4
          replace A1 := rcx hb4 A1
          replace K1 := rcx hb4 K1
          clear hb4
          obtain ⟨A1_0, A1_1, A1_2⟩ := qw3 A1
          obtain ⟨K1_0, K1_1, K1_2, K1_3⟩ := qw4 K1
          have zA1 := lt_of_heap A1.out
          have zK1 := lt_of_heap K1.out
          go_simp
          go_wp2_with fail
          refine (H5.out _).mono ?_
          rintro e V5 ⟨rfl, hb5⟩
          clear A1_0 A1_1 A1_2 zA1 K1_0 K1_1 K1_2 K1_3 zK1
          have B5 : Hid (Below w.heap.size w V5) := nbx B4 hb5
          replace A1 := rcx hb5 A1
          replace K1 := rcx hb5 K1
          clear hb5
          obtain ⟨A1_0, A1_1, A1_2⟩ := qw3 A1
          obtain ⟨K1_0, K1_1, K1_2, K1_3⟩ := qw4 K1
          have zA1 := lt_of_heap A1.out
          have zK1 := lt_of_heap K1.out
          go_simp
          go_wp2_with fail
          refine (H6.out _).mono ?_
          rintro e V6 ⟨rfl, hb6⟩
          clear A1_0 A1_1 A1_2 zA1 K1_0 K1_1 K1_2 K1_3 zK1
          have B6 : Hid (Below w.heap.size w V6) := nbx B5 hb6
          replace A1 := rcx hb6 A1
          replace K1 := rcx hb6 K1
          clear hb6
          obtain ⟨A1_0, A1_1, A1_2⟩ := qw3 A1
          obtain ⟨K1_0, K1_1, K1_2, K1_3⟩ := qw4 K1
          have zA1 := lt_of_heap A1.out
          have zK1 := lt_of_heap K1.out
          go_simp
          go_wp2
          go_ret2
          exact ⟨by rw [hv.out, he.out]; rfl, B6.out⟩
        · replace H7 := H7 rfl rfl rfl
          replace H8 := H8 rfl rfl rfl
          go_enter Tryz.func55, Tryz.ntmps55
          go_wp2_with fail
          
          refine (H1.out _).mono ?_
          rintro e V1 ⟨rfl, hb1⟩
          have B1 := nby hb1
          have A1 := Lib.hid (row_call hb1 (heap_alloc_new _ _))
          clear hb1
          obtain ⟨A1_0, A1_1, A1_2⟩ := qw3 A1
          have zA1 := lt_of_heap A1.out
          go_simp
          have hg0 := heap_alloc_new V1 (.cells #[.bool false, .bool false, .nilFunc, .nilFunc] 121)
          go_wp2_with (refine wpList_store_row (by rfl) 121 _ _ (by rfl) V1.heap.size #[.bool true, .bool false, .func (.func 101) #[] #[], .func (.func 102) #[] #[]] (by rfl) (by rfl) 121 _ hg0 (by kernel_rfl) (by rfl) (by simp [Value.oneCell']) ?_; rw [World.setRow_alloc_new]; clear hg0)
          refine (H2.out _ (by first | exact md_keep hM ((B1.out).alloc (B1.out.size) _))).mono ?_
          rintro e V2 ⟨rfl, hb2⟩
          clear A1_0 A1_1 A1_2 zA1
          have nA1K1 := Lib.hid (lt_of_heap A1.out)
          have B2 := Lib.hid (((B1.out).alloc (B1.out.size) _).trans (hb2.mono (by have := B1.out.size; first | assumption | (simp <;> omega) | (simp; done))))
          replace A1 := Lib.hid (row_call hb2 (row_alloc A1.out _))
          have K1 := Lib.hid (row_call hb2 (heap_alloc_new _ _))
          clear hb2
          obtain ⟨A1_0, A1_1, A1_2⟩ := qw3 A1
          obtain ⟨K1_0, K1_1, K1_2, K1_3⟩ := qw4 K1
          have zA1 := lt_of_heap A1.out
          have zK1 := lt_of_heap K1.out
          go_simp
          go_wp2_with fail
          refine (H3.out _).mono ?_
          rintro e V3 ⟨rfl, hb3⟩
          clear A1_0 A1_1 A1_2 zA1 K1_0 K1_1 K1_2 K1_3 zK1
          have B3 : Hid (Below w.heap.size w V3) := nbx B2 hb3
          replace A1 := rcx hb3 A1
          replace K1 := rcx hb3 K1
          clear hb3
          obtain ⟨A1_0, A1_1, A1_2⟩ := qw3 A1
          obtain ⟨K1_0, K1_1, K1_2, K1_3⟩ := qw4 K1
          have zA1 := lt_of_heap A1.out
          have zK1 := lt_of_heap K1.out
          go_simp
          go_wp2_with fail
          refine (H4.out _).mono ?_
          rintro e V4 ⟨rfl, hb4⟩
          clear A1_0 A1_1 A1_2 zA1 K1_0 K1_1 K1_2 K1_3 zK1
          have B4 : Hid (Below w.heap.size w V4) := nbx B3 hb4
          replace A1 := rcx hb4 A1
          replace K1 := rcx hb4 K1
          clear hb4
          obtain ⟨A1_0, A1_1, A1_2⟩ := qw3 A1
          obtain ⟨K1_0, K1_1, K1_2, K1_3⟩ := qw4 K1
          have zA1 := lt_of_heap A1.out
          have zK1 := lt_of_heap K1.out
          go_simp
          go_wp2_with fail
          refine (H5.out _).mono ?_
          rintro e V5 ⟨rfl, hb5⟩
          clear A1_0 A1_1 A1_2 zA1 K1_0 K1_1 K1_2 K1_3 zK1
          have B5 : Hid (Below w.heap.size w V5) := nbx B4 hb5
          replace A1 := rcx hb5 A1
          replace K1 := rcx hb5 K1
          clear hb5
          obtain ⟨A1_0, A1_1, A1_2⟩ := qw3 A1
          obtain ⟨K1_0, K1_1, K1_2, K1_3⟩ := qw4 K1
          have zA1 := lt_of_heap A1.out
          have zK1 := lt_of_heap K1.out
          go_simp
          go_wp2_with fail
          refine (H6.out _).mono ?_
          rintro e V6 ⟨rfl, hb6⟩
          clear A1_0 A1_1 A1_2 zA1 K1_0 K1_1 K1_2 K1_3 zK1
          have B6 : Hid (Below w.heap.size w V6) := nbx B5 hb6
          replace A1 := rcx hb6 A1
          replace K1 := rcx hb6 K1
          clear hb6
          obtain ⟨A1_0, A1_1, A1_2⟩ := qw3 A1
          obtain ⟨K1_0, K1_1, K1_2, K1_3⟩ := qw4 K1
          have zA1 := lt_of_heap A1.out
          have zK1 := lt_of_heap K1.out
          go_simp
          go_wp2_with fail
          clear A1_0 A1_1 A1_2 zA1 K1_0 K1_1 K1_2 K1_3 zK1
          obtain ⟨W0, hW0⟩ : ∃ W0, W0 = V6 := ⟨_, rfl⟩
          replace A1 := Lib.hid (row_by hW0 A1.out)
          replace K1 := Lib.hid (row_by hW0 K1.out)
          have HB0 := Lib.hid (below_by hW0 (B6.out))
          have HW0 := Lib.hid hW0
          clear hW0
          obtain ⟨A1_0, A1_1, A1_2⟩ := qw3 A1
          have zA1 := lt_of_heap A1.out
          obtain ⟨K1_0, K1_1, K1_2, K1_3⟩ := qw4 K1
          have zK1 := lt_of_heap K1.out
          try rw [← HW0.out]
          go_cut [6, 7] (fun s6 s7 wx => s6 = .int .i64 R ∧ s7 = .int .i64 0 ∧ Below W0.heap.size W0 wx)
          case first =>
            go_region_held3 (fun w' => Below W0.heap.size W0 w' ∧ w'.cell? ⟨w.heap.size, 0, none⟩ = some (.int .i64 0) ∧ w'.cell? ⟨w.heap.size, 1, none⟩ = some (.int .i64 n) ∧ w'.cell? ⟨w.heap.size, 2, none⟩ = some (.int .i64 wd) ∧ w'.cell? ⟨V1.heap.size, 0, none⟩ = some (.bool true) ∧ w'.cell? ⟨V1.heap.size, 1, none⟩ = some (.bool false) ∧ w'.cell? ⟨V1.heap.size, 2, none⟩ = some (.func (.func 101) #[] #[]) ∧ w'.cell? ⟨V1.heap.size, 3, none⟩ = some (.func (.func 102) #[] #[]))
    (first
      | ((try go_split_ands); refine ⟨(Below.refl _ _).drew, ?_, ?_, ?_, ?_, ?_, ?_, ?_⟩ <;> first | assumption | (rw [World.cell?_drew]; assumption))
      | ((try go_split_ands); refine ⟨keepS (W0 := W0) ?_ hb1, cellS (W0 := W0) ?_ hb1 ?_ ?_, cellS (W0 := W0) ?_ hb1 ?_ ?_, cellS (W0 := W0) ?_ hb1 ?_ ?_, cellS (W0 := W0) ?_ hb1 ?_ ?_, cellS (W0 := W0) ?_ hb1 ?_ ?_, cellS (W0 := W0) ?_ hb1 ?_ ?_, cellS (W0 := W0) ?_ hb1 ?_ ?_⟩ <;> first | assumption | omega)
      | ((try go_split_ands); refine ⟨keepA (W0 := W0) ?_ _, cellA (W0 := W0) ?_ _ ?_ ?_, cellA (W0 := W0) ?_ _ ?_ ?_, cellA (W0 := W0) ?_ _ ?_ ?_, cellA (W0 := W0) ?_ _ ?_ ?_, cellA (W0 := W0) ?_ _ ?_ ?_, cellA (W0 := W0) ?_ _ ?_ ?_, cellA (W0 := W0) ?_ _ ?_ ?_⟩ <;> first | assumption | omega)
      | ((try go_split_ands); refine ⟨keepAd (W0 := W0) ?_ _, cellAd (W0 := W0) ?_ _ ?_ ?_, cellAd (W0 := W0) ?_ _ ?_ ?_, cellAd (W0 := W0) ?_ _ ?_ ?_, cellAd (W0 := W0) ?_ _ ?_ ?_, cellAd (W0 := W0) ?_ _ ?_ ?_, cellAd (W0 := W0) ?_ _ ?_ ?_, cellAd (W0 := W0) ?_ _ ?_ ?_⟩ <;> first | assumption | omega | exact Below.refl _ _)
      | ((try go_split_ands); (with_reducible refine ⟨keep3 (W0 := W0) ?_ ?_ _ _ _, cell3 (W0 := W0) ?_ _ _ _ ?_ ?_, cell3 (W0 := W0) ?_ _ _ _ ?_ ?_, cell3 (W0 := W0) ?_ _ _ _ ?_ ?_, cell3 (W0 := W0) ?_ _ _ _ ?_ ?_, cell3 (W0 := W0) ?_ _ _ _ ?_ ?_, cell3 (W0 := W0) ?_ _ _ _ ?_ ?_, cell3 (W0 := W0) ?_ _ _ _ ?_ ?_⟩) <;> first | assumption | omega | exact Nat.le_refl _)
      | ((try go_split_ands); refine ⟨keep2 (W0 := W0) ?_ ?_ _ _, cell2 (W0 := W0) ?_ _ _ ?_ ?_, cell2 (W0 := W0) ?_ _ _ ?_ ?_, cell2 (W0 := W0) ?_ _ _ ?_ ?_, cell2 (W0 := W0) ?_ _ _ ?_ ?_, cell2 (W0 := W0) ?_ _ _ ?_ ?_, cell2 (W0 := W0) ?_ _ _ ?_ ?_, cell2 (W0 := W0) ?_ _ _ ?_ ?_⟩ <;> first | assumption | omega | exact Nat.le_refl _)
      | ((try go_split_ands); refine ⟨keepZ (W0 := W0) ?_ ?_ _, cellZ (W0 := W0) ?_ _ ?_ ?_, cellZ (W0 := W0) ?_ _ ?_ ?_, cellZ (W0 := W0) ?_ _ ?_ ?_, cellZ (W0 := W0) ?_ _ ?_ ?_, cellZ (W0 := W0) ?_ _ ?_ ?_, cellZ (W0 := W0) ?_ _ ?_ ?_, cellZ (W0 := W0) ?_ _ ?_ ?_⟩ <;> first | assumption | omega | exact Nat.le_refl _ | exact ⟨_, by assumption⟩))
    (first | (go_at_call 78; (with_reducible refine (H7.out _ ?_).mono ?_); (focus (refine md_keep (Lib.hid (md_keep hM HB0.out)) ?_; first | assumption | (with_reducible exact (Below.refl _ _).drew) | (go_split_ands; done) | ((try go_split_ands); assumption))); rintro e w1 ⟨rfl, hb1⟩; (try go_split_ands); have hge : W0.heap.size ≤ w1.heap.size := (by first | (refine (keepS (W0 := W0) ?_ hb1).size; assumption) | exact (hb1.size : W0.heap.size ≤ w1.heap.size)); (try have hrow := row_call hb1 hrow); (try have hrow := row_new hb1); (try have hrow := row_newd hb1); have hl1 := lt_below hb1; obtain ⟨hc1, hf1⟩ := bcell hb1; (try (have hrc := row_cellA hrow; clear hc1 hf1)); (try have hrf := row_frozA hrow)) | (go_at_call 102; (with_reducible refine (H8.out _).mono ?_); rintro e w1 ⟨rfl, hb1⟩; (try go_split_ands); have hge : W0.heap.size ≤ w1.heap.size := (by first | (refine (keepS (W0 := W0) ?_ hb1).size; assumption) | exact (hb1.size : W0.heap.size ≤ w1.heap.size)); (try have hrow := row_call hb1 hrow); (try have hrow := row_new hb1); (try have hrow := row_newd hb1); have hl1 := lt_below hb1; obtain ⟨hc1, hf1⟩ := bcell hb1; (try (have hrc := row_cellA hrow; clear hc1 hf1)); (try have hrf := row_frozA hrow)) | (go_at_call 78; refine (H7.out _ (by first | exact md_keep (Lib.hid (md_keep hM HB0.out)) (by assumption) | exact md_keep (Lib.hid (md_keep hM HB0.out)) (by (try go_split_ands); assumption) | exact md_keep (Lib.hid (md_keep hM HB0.out)) (Below.refl _ _).drew)).mono ?_; rintro e w1 ⟨rfl, hb1⟩; (try go_split_ands); have hge : W0.heap.size ≤ w1.heap.size := (by first | (refine (keepS (W0 := W0) ?_ hb1).size; assumption) | exact (hb1.size : W0.heap.size ≤ w1.heap.size)); (try have hrow := row_call hb1 hrow); (try have hrow := row_new hb1); (try have hrow := row_newd hb1); have hl1 := lt_below hb1; obtain ⟨hc1, hf1⟩ := bcell hb1; (try (have hrc := row_cellA hrow; clear hc1 hf1)); (try have hrf := row_frozA hrow)))
            all_goals (try go_split_ands)
            all_goals (go_wp2_with fail; go_meet; refine ⟨rfl, rfl, ?_⟩)
            all_goals first | (with_reducible assumption) | (with_reducible exact heap_alloc_new _ _) | (with_reducible exact row_set3 (by assumption) _ _ _) | assumption | exact heap_alloc_new _ _ | exact row_set (by assumption) _ _
          case rest =>
            obtain ⟨rfl, rfl, hB⟩ := hcut
            obtain ⟨V7, rfl⟩ : ∃ V, V = wc := ⟨_, rfl⟩
            clear A1_0 A1_1 A1_2 zA1 K1_0 K1_1 K1_2 K1_3 zK1
            replace A1 := Lib.hid (row_call hB A1.out)
            replace K1 := Lib.hid (row_call hB K1.out)
            have B7 := Lib.hid (HB0.out.trans (hB.mono HB0.out.size))
            clear hB
            obtain ⟨A1_0, A1_1, A1_2⟩ := qw3 A1
            have zA1 := lt_of_heap A1.out
            obtain ⟨K1_0, K1_1, K1_2, K1_3⟩ := qw4 K1
            have zK1 := lt_of_heap K1.out
            go_wp2
            go_ret2
            exact ⟨by rw [hv.out, he.out]; rfl, B7.out⟩
      · clear H6 H7 H8
        go_enter Tryz.func55, Tryz.ntmps55
        go_wp2_with fail
        
        refine (H1.out _).mono ?_
        rintro e V1 ⟨rfl, hb1⟩
        have B1 := nby hb1
        have A1 := Lib.hid (row_call hb1 (heap_alloc_new _ _))
        clear hb1
        obtain ⟨A1_0, A1_1, A1_2⟩ := qw3 A1
        have zA1 := lt_of_heap A1.out
        go_simp
        have hg0 := heap_alloc_new V1 (.cells #[.bool false, .bool false, .nilFunc, .nilFunc] 121)
        go_wp2_with (refine wpList_store_row (by rfl) 121 _ _ (by rfl) V1.heap.size #[.bool true, .bool false, .func (.func 101) #[] #[], .func (.func 102) #[] #[]] (by rfl) (by rfl) 121 _ hg0 (by kernel_rfl) (by rfl) (by simp [Value.oneCell']) ?_; rw [World.setRow_alloc_new]; clear hg0)
        refine (H2.out _ (by first | exact md_keep hM ((B1.out).alloc (B1.out.size) _))).mono ?_
        rintro e V2 ⟨rfl, hb2⟩
        clear A1_0 A1_1 A1_2 zA1
        have nA1K1 := Lib.hid (lt_of_heap A1.out)
        have B2 := Lib.hid (((B1.out).alloc (B1.out.size) _).trans (hb2.mono (by have := B1.out.size; first | assumption | (simp <;> omega) | (simp; done))))
        replace A1 := Lib.hid (row_call hb2 (row_alloc A1.out _))
        have K1 := Lib.hid (row_call hb2 (heap_alloc_new _ _))
        clear hb2
        obtain ⟨A1_0, A1_1, A1_2⟩ := qw3 A1
        obtain ⟨K1_0, K1_1, K1_2, K1_3⟩ := qw4 K1
        have zA1 := lt_of_heap A1.out
        have zK1 := lt_of_heap K1.out
        go_simp
        go_wp2_with fail
        refine (H3.out _).mono ?_
        rintro e V3 ⟨rfl, hb3⟩
        clear A1_0 A1_1 A1_2 zA1 K1_0 K1_1 K1_2 K1_3 zK1
        have B3 : Hid (Below w.heap.size w V3) := nbx B2 hb3
        replace A1 := rcx hb3 A1
        replace K1 := rcx hb3 K1
        clear hb3
        obtain ⟨A1_0, A1_1, A1_2⟩ := qw3 A1
        obtain ⟨K1_0, K1_1, K1_2, K1_3⟩ := qw4 K1
        have zA1 := lt_of_heap A1.out
        have zK1 := lt_of_heap K1.out
        go_simp
        go_wp2_with fail
        refine (H4.out _).mono ?_
        rintro e V4 ⟨rfl, hb4⟩
        clear A1_0 A1_1 A1_2 zA1 K1_0 K1_1 K1_2 K1_3 zK1
        have B4 : Hid (Below w.heap.size w V4) := nbx B3 hb4
        replace A1 := rcx hb4 A1
        replace K1 := rcx hb4 K1
        clear hb4
        obtain ⟨A1_0, A1_1, A1_2⟩ := qw3 A1
        obtain ⟨K1_0, K1_1, K1_2, K1_3⟩ := qw4 K1
        have zA1 := lt_of_heap A1.out
        have zK1 := lt_of_heap K1.out
        go_simp
        go_wp2_with fail
        refine (H5.out _).mono ?_
        rintro e V5 ⟨rfl, hb5⟩
        clear A1_0 A1_1 A1_2 zA1 K1_0 K1_1 K1_2 K1_3 zK1
        have B5 : Hid (Below w.heap.size w V5) := nbx B4 hb5
        replace A1 := rcx hb5 A1
        replace K1 := rcx hb5 K1
        clear hb5
        obtain ⟨A1_0, A1_1, A1_2⟩ := qw3 A1
        obtain ⟨K1_0, K1_1, K1_2, K1_3⟩ := qw4 K1
        have zA1 := lt_of_heap A1.out
        have zK1 := lt_of_heap K1.out
        go_simp
        go_wp2
        go_ret2
        exact ⟨by rw [hv.out, he.out]; rfl, B5.out⟩
set_option maxHeartbeats 6400000 in
set_option maxRecDepth 100000 in
theorem pYrW_1 (n wd y m F M R v er : Int) (t u q x : Bool) (hv : v = if t = true then (if u = true then (if q = true then 0 else if x = true then R else 0) else 0) else 0) (he : er = if t = true then (if u = true then (if q = true then 7 else if x = true then 0 else 8) else 5) else 5)
    (H2 : Hid (∀ w, MD w → Calls Tryz.prog 75 #[.int .i64 y, .int .i64 m] w fun e w' => e = .returned (.int .i64 M) ∧ Below w.heap.size w w'))
    (H3 : Hid (∀ w, Calls Tryz.prog 76 #[.agg #[.bool false, .bool true, .func (.func 103) #[] #[], .func (.func 104) #[] #[]], .agg #[.int .i64 1, .int .i64 n, .int .i64 wd]] w fun e w' => e = .returned (.bool t) ∧ Below w.heap.size w w'))
    (H4 : Hid (∀ w, Calls Tryz.prog 77 #[.int .i64 m, .int .i64 1, .int .i64 12] w fun e w' => e = .returned (.bool u) ∧ Below w.heap.size w w'))
    (H5 : Hid (∀ w, Calls Tryz.prog 103 #[.agg #[.int .i64 1, .int .i64 n, .int .i64 wd], .int .i64 M] w fun e w' => e = .returned (.bool q) ∧ Below w.heap.size w w'))
    (H6 : Hid (∀ w, Calls Tryz.prog 77 #[.int .i64 y, .int .i64 (-9999), .int .i64 10000] w fun e w' => e = .returned (.bool x) ∧ Below w.heap.size w w'))
    (H7 : t = true → u = true → x = true → Hid (∀ w, MD w → Calls Tryz.prog 78 #[.int .i64 y, .int .i64 m] w fun e w' => e = .returned (.int .i64 F) ∧ Below w.heap.size w w'))
    (H8 : t = true → u = true → x = true → Hid (∀ w, Calls Tryz.prog 104 #[.agg #[.int .i64 1, .int .i64 n, .int .i64 wd], .agg #[.int .i64 F, .int .i64 M]] w fun e w' => e = .returned (.int .i64 R) ∧ Below w.heap.size w w'))
    (w : World) (hM : MD w) : Calls Tryz.prog 55 #[.agg #[.int .i64 1, .int .i64 n, .int .i64 wd], .int .i64 y, .int .i64 m] w fun e w' => e = .returned (.tuple #[.int .i64 v, .int .i64 er]) ∧ Below w.heap.size w w' := by
  have H1 := Lib.hid yKind_1
  replace hM := Lib.hid hM
  replace hv := Lib.hid hv
  replace he := Lib.hid he
  cases t
  · clear H4 H5 H6 H7 H8
    go_enter Tryz.func55, Tryz.ntmps55
    go_wp2_with fail
    
    refine (H1.out _).mono ?_
    rintro e V1 ⟨rfl, hb1⟩
    have B1 := nby hb1
    have A1 := Lib.hid (row_call hb1 (heap_alloc_new _ _))
    clear hb1
    obtain ⟨A1_0, A1_1, A1_2⟩ := qw3 A1
    have zA1 := lt_of_heap A1.out
    go_simp
    have hg0 := heap_alloc_new V1 (.cells #[.bool false, .bool false, .nilFunc, .nilFunc] 121)
    go_wp2_with (refine wpList_store_row (by rfl) 121 _ _ (by rfl) V1.heap.size #[.bool false, .bool true, .func (.func 103) #[] #[], .func (.func 104) #[] #[]] (by rfl) (by rfl) 121 _ hg0 (by kernel_rfl) (by rfl) (by simp [Value.oneCell']) ?_; rw [World.setRow_alloc_new]; clear hg0)
    refine (H2.out _ (by first | exact md_keep hM ((B1.out).alloc (B1.out.size) _))).mono ?_
    rintro e V2 ⟨rfl, hb2⟩
    clear A1_0 A1_1 A1_2 zA1
    have nA1K1 := Lib.hid (lt_of_heap A1.out)
    have B2 := Lib.hid (((B1.out).alloc (B1.out.size) _).trans (hb2.mono (by have := B1.out.size; first | assumption | (simp <;> omega) | (simp; done))))
    replace A1 := Lib.hid (row_call hb2 (row_alloc A1.out _))
    have K1 := Lib.hid (row_call hb2 (heap_alloc_new _ _))
    clear hb2
    obtain ⟨A1_0, A1_1, A1_2⟩ := qw3 A1
    obtain ⟨K1_0, K1_1, K1_2, K1_3⟩ := qw4 K1
    have zA1 := lt_of_heap A1.out
    have zK1 := lt_of_heap K1.out
    go_simp
    go_wp2_with fail
    refine (H3.out _).mono ?_
    rintro e V3 ⟨rfl, hb3⟩
    clear A1_0 A1_1 A1_2 zA1 K1_0 K1_1 K1_2 K1_3 zK1
    have B3 : Hid (Below w.heap.size w V3) := nbx B2 hb3
    replace A1 := rcx hb3 A1
    replace K1 := rcx hb3 K1
    clear hb3
    obtain ⟨A1_0, A1_1, A1_2⟩ := qw3 A1
    obtain ⟨K1_0, K1_1, K1_2, K1_3⟩ := qw4 K1
    have zA1 := lt_of_heap A1.out
    have zK1 := lt_of_heap K1.out
    go_simp
    go_wp2
    go_ret2
    exact ⟨by rw [hv.out, he.out]; rfl, B3.out⟩
  · cases u
    · clear H5 H6 H7 H8
      go_enter Tryz.func55, Tryz.ntmps55
      go_wp2_with fail
      
      refine (H1.out _).mono ?_
      rintro e V1 ⟨rfl, hb1⟩
      have B1 := nby hb1
      have A1 := Lib.hid (row_call hb1 (heap_alloc_new _ _))
      clear hb1
      obtain ⟨A1_0, A1_1, A1_2⟩ := qw3 A1
      have zA1 := lt_of_heap A1.out
      go_simp
      have hg0 := heap_alloc_new V1 (.cells #[.bool false, .bool false, .nilFunc, .nilFunc] 121)
      go_wp2_with (refine wpList_store_row (by rfl) 121 _ _ (by rfl) V1.heap.size #[.bool false, .bool true, .func (.func 103) #[] #[], .func (.func 104) #[] #[]] (by rfl) (by rfl) 121 _ hg0 (by kernel_rfl) (by rfl) (by simp [Value.oneCell']) ?_; rw [World.setRow_alloc_new]; clear hg0)
      refine (H2.out _ (by first | exact md_keep hM ((B1.out).alloc (B1.out.size) _))).mono ?_
      rintro e V2 ⟨rfl, hb2⟩
      clear A1_0 A1_1 A1_2 zA1
      have nA1K1 := Lib.hid (lt_of_heap A1.out)
      have B2 := Lib.hid (((B1.out).alloc (B1.out.size) _).trans (hb2.mono (by have := B1.out.size; first | assumption | (simp <;> omega) | (simp; done))))
      replace A1 := Lib.hid (row_call hb2 (row_alloc A1.out _))
      have K1 := Lib.hid (row_call hb2 (heap_alloc_new _ _))
      clear hb2
      obtain ⟨A1_0, A1_1, A1_2⟩ := qw3 A1
      obtain ⟨K1_0, K1_1, K1_2, K1_3⟩ := qw4 K1
      have zA1 := lt_of_heap A1.out
      have zK1 := lt_of_heap K1.out
      go_simp
      go_wp2_with fail
      refine (H3.out _).mono ?_
      rintro e V3 ⟨rfl, hb3⟩
      clear A1_0 A1_1 A1_2 zA1 K1_0 K1_1 K1_2 K1_3 zK1
      have B3 : Hid (Below w.heap.size w V3) := nbx B2 hb3
      replace A1 := rcx hb3 A1
      replace K1 := rcx hb3 K1
      clear hb3
      obtain ⟨A1_0, A1_1, A1_2⟩ := qw3 A1
      obtain ⟨K1_0, K1_1, K1_2, K1_3⟩ := qw4 K1
      have zA1 := lt_of_heap A1.out
      have zK1 := lt_of_heap K1.out
      go_simp
      go_wp2_with fail
      refine (H4.out _).mono ?_
      rintro e V4 ⟨rfl, hb4⟩
      clear A1_0 A1_1 A1_2 zA1 K1_0 K1_1 K1_2 K1_3 zK1
      have B4 : Hid (Below w.heap.size w V4) := nbx B3 hb4
      replace A1 := rcx hb4 A1
      replace K1 := rcx hb4 K1
      clear hb4
      obtain ⟨A1_0, A1_1, A1_2⟩ := qw3 A1
      obtain ⟨K1_0, K1_1, K1_2, K1_3⟩ := qw4 K1
      have zA1 := lt_of_heap A1.out
      have zK1 := lt_of_heap K1.out
      go_simp
      go_wp2
      go_ret2
      exact ⟨by rw [hv.out, he.out]; rfl, B4.out⟩
    · cases q
      · cases x
        · clear H7 H8
          go_enter Tryz.func55, Tryz.ntmps55
          go_wp2_with fail
          
          refine (H1.out _).mono ?_
          rintro e V1 ⟨rfl, hb1⟩
          have B1 := nby hb1
          have A1 := Lib.hid (row_call hb1 (heap_alloc_new _ _))
          clear hb1
          obtain ⟨A1_0, A1_1, A1_2⟩ := qw3 A1
          have zA1 := lt_of_heap A1.out
          go_simp
          have hg0 := heap_alloc_new V1 (.cells #[.bool false, .bool false, .nilFunc, .nilFunc] 121)
          go_wp2_with (refine wpList_store_row (by rfl) 121 _ _ (by rfl) V1.heap.size #[.bool false, .bool true, .func (.func 103) #[] #[], .func (.func 104) #[] #[]] (by rfl) (by rfl) 121 _ hg0 (by kernel_rfl) (by rfl) (by simp [Value.oneCell']) ?_; rw [World.setRow_alloc_new]; clear hg0)
          refine (H2.out _ (by first | exact md_keep hM ((B1.out).alloc (B1.out.size) _))).mono ?_
          rintro e V2 ⟨rfl, hb2⟩
          clear A1_0 A1_1 A1_2 zA1
          have nA1K1 := Lib.hid (lt_of_heap A1.out)
          have B2 := Lib.hid (((B1.out).alloc (B1.out.size) _).trans (hb2.mono (by have := B1.out.size; first | assumption | (simp <;> omega) | (simp; done))))
          replace A1 := Lib.hid (row_call hb2 (row_alloc A1.out _))
          have K1 := Lib.hid (row_call hb2 (heap_alloc_new _ _))
          clear hb2
          obtain ⟨A1_0, A1_1, A1_2⟩ := qw3 A1
          obtain ⟨K1_0, K1_1, K1_2, K1_3⟩ := qw4 K1
          have zA1 := lt_of_heap A1.out
          have zK1 := lt_of_heap K1.out
          go_simp
          go_wp2_with fail
          refine (H3.out _).mono ?_
          rintro e V3 ⟨rfl, hb3⟩
          clear A1_0 A1_1 A1_2 zA1 K1_0 K1_1 K1_2 K1_3 zK1
          have B3 : Hid (Below w.heap.size w V3) := nbx B2 hb3
          replace A1 := rcx hb3 A1
          replace K1 := rcx hb3 K1
          clear hb3
          obtain ⟨A1_0, A1_1, A1_2⟩ := qw3 A1
          obtain ⟨K1_0, K1_1, K1_2, K1_3⟩ := qw4 K1
          have zA1 := lt_of_heap A1.out
          have zK1 := lt_of_heap K1.out
          go_simp
          go_wp2_with fail
          refine (H4.out _).mono ?_
          rintro e V4 ⟨rfl, hb4⟩
          clear A1_0 A1_1 A1_2 zA1 K1_0 K1_1 K1_2 K1_3 zK1
          have B4 : Hid (Below w.heap.size w V4) := nbx B3 hb4
          replace A1 := rcx hb4 A1
          replace K1 := rcx hb4 K1
          clear hb4
          obtain ⟨A1_0, A1_1, A1_2⟩ := qw3 A1
          obtain ⟨K1_0, K1_1, K1_2, K1_3⟩ := qw4 K1
          have zA1 := lt_of_heap A1.out
          have zK1 := lt_of_heap K1.out
          go_simp
          go_wp2_with fail
          refine (H5.out _).mono ?_
          rintro e V5 ⟨rfl, hb5⟩
          clear A1_0 A1_1 A1_2 zA1 K1_0 K1_1 K1_2 K1_3 zK1
          have B5 : Hid (Below w.heap.size w V5) := nbx B4 hb5
          replace A1 := rcx hb5 A1
          replace K1 := rcx hb5 K1
          clear hb5
          obtain ⟨A1_0, A1_1, A1_2⟩ := qw3 A1
          obtain ⟨K1_0, K1_1, K1_2, K1_3⟩ := qw4 K1
          have zA1 := lt_of_heap A1.out
          have zK1 := lt_of_heap K1.out
          go_simp
          go_wp2_with fail
          refine (H6.out _).mono ?_
          rintro e V6 ⟨rfl, hb6⟩
          clear A1_0 A1_1 A1_2 zA1 K1_0 K1_1 K1_2 K1_3 zK1
          have B6 : Hid (Below w.heap.size w V6) := nbx B5 hb6
          replace A1 := rcx hb6 A1
          replace K1 := rcx hb6 K1
          clear hb6
          obtain ⟨A1_0, A1_1, A1_2⟩ := qw3 A1
          obtain ⟨K1_0, K1_1, K1_2, K1_3⟩ := qw4 K1
          have zA1 := lt_of_heap A1.out
          have zK1 := lt_of_heap K1.out
          go_simp
          go_wp2
          go_ret2
          exact ⟨by rw [hv.out, he.out]; rfl, B6.out⟩
        · replace H7 := H7 rfl rfl rfl
          replace H8 := H8 rfl rfl rfl
          go_enter Tryz.func55, Tryz.ntmps55
          go_wp2_with fail
          
          refine (H1.out _).mono ?_
          rintro e V1 ⟨rfl, hb1⟩
          have B1 := nby hb1
          have A1 := Lib.hid (row_call hb1 (heap_alloc_new _ _))
          clear hb1
          obtain ⟨A1_0, A1_1, A1_2⟩ := qw3 A1
          have zA1 := lt_of_heap A1.out
          go_simp
          have hg0 := heap_alloc_new V1 (.cells #[.bool false, .bool false, .nilFunc, .nilFunc] 121)
          go_wp2_with (refine wpList_store_row (by rfl) 121 _ _ (by rfl) V1.heap.size #[.bool false, .bool true, .func (.func 103) #[] #[], .func (.func 104) #[] #[]] (by rfl) (by rfl) 121 _ hg0 (by kernel_rfl) (by rfl) (by simp [Value.oneCell']) ?_; rw [World.setRow_alloc_new]; clear hg0)
          refine (H2.out _ (by first | exact md_keep hM ((B1.out).alloc (B1.out.size) _))).mono ?_
          rintro e V2 ⟨rfl, hb2⟩
          clear A1_0 A1_1 A1_2 zA1
          have nA1K1 := Lib.hid (lt_of_heap A1.out)
          have B2 := Lib.hid (((B1.out).alloc (B1.out.size) _).trans (hb2.mono (by have := B1.out.size; first | assumption | (simp <;> omega) | (simp; done))))
          replace A1 := Lib.hid (row_call hb2 (row_alloc A1.out _))
          have K1 := Lib.hid (row_call hb2 (heap_alloc_new _ _))
          clear hb2
          obtain ⟨A1_0, A1_1, A1_2⟩ := qw3 A1
          obtain ⟨K1_0, K1_1, K1_2, K1_3⟩ := qw4 K1
          have zA1 := lt_of_heap A1.out
          have zK1 := lt_of_heap K1.out
          go_simp
          go_wp2_with fail
          refine (H3.out _).mono ?_
          rintro e V3 ⟨rfl, hb3⟩
          clear A1_0 A1_1 A1_2 zA1 K1_0 K1_1 K1_2 K1_3 zK1
          have B3 : Hid (Below w.heap.size w V3) := nbx B2 hb3
          replace A1 := rcx hb3 A1
          replace K1 := rcx hb3 K1
          clear hb3
          obtain ⟨A1_0, A1_1, A1_2⟩ := qw3 A1
          obtain ⟨K1_0, K1_1, K1_2, K1_3⟩ := qw4 K1
          have zA1 := lt_of_heap A1.out
          have zK1 := lt_of_heap K1.out
          go_simp
          go_wp2_with fail
          refine (H4.out _).mono ?_
          rintro e V4 ⟨rfl, hb4⟩
          clear A1_0 A1_1 A1_2 zA1 K1_0 K1_1 K1_2 K1_3 zK1
          have B4 : Hid (Below w.heap.size w V4) := nbx B3 hb4
          replace A1 := rcx hb4 A1
          replace K1 := rcx hb4 K1
          clear hb4
          obtain ⟨A1_0, A1_1, A1_2⟩ := qw3 A1
          obtain ⟨K1_0, K1_1, K1_2, K1_3⟩ := qw4 K1
          have zA1 := lt_of_heap A1.out
          have zK1 := lt_of_heap K1.out
          go_simp
          go_wp2_with fail
          refine (H5.out _).mono ?_
          rintro e V5 ⟨rfl, hb5⟩
          clear A1_0 A1_1 A1_2 zA1 K1_0 K1_1 K1_2 K1_3 zK1
          have B5 : Hid (Below w.heap.size w V5) := nbx B4 hb5
          replace A1 := rcx hb5 A1
          replace K1 := rcx hb5 K1
          clear hb5
          obtain ⟨A1_0, A1_1, A1_2⟩ := qw3 A1
          obtain ⟨K1_0, K1_1, K1_2, K1_3⟩ := qw4 K1
          have zA1 := lt_of_heap A1.out
          have zK1 := lt_of_heap K1.out
          go_simp
          go_wp2_with fail
          refine (H6.out _).mono ?_
          rintro e V6 ⟨rfl, hb6⟩
          clear A1_0 A1_1 A1_2 zA1 K1_0 K1_1 K1_2 K1_3 zK1
          have B6 : Hid (Below w.heap.size w V6) := nbx B5 hb6
          replace A1 := rcx hb6 A1
          replace K1 := rcx hb6 K1
          clear hb6
          obtain ⟨A1_0, A1_1, A1_2⟩ := qw3 A1
          obtain ⟨K1_0, K1_1, K1_2, K1_3⟩ := qw4 K1
          have zA1 := lt_of_heap A1.out
          have zK1 := lt_of_heap K1.out
          go_simp
          go_wp2_with fail
          clear A1_0 A1_1 A1_2 zA1 K1_0 K1_1 K1_2 K1_3 zK1
          obtain ⟨W0, hW0⟩ : ∃ W0, W0 = V6 := ⟨_, rfl⟩
          replace A1 := Lib.hid (row_by hW0 A1.out)
          replace K1 := Lib.hid (row_by hW0 K1.out)
          have HB0 := Lib.hid (below_by hW0 (B6.out))
          have HW0 := Lib.hid hW0
          clear hW0
          obtain ⟨A1_0, A1_1, A1_2⟩ := qw3 A1
          have zA1 := lt_of_heap A1.out
          obtain ⟨K1_0, K1_1, K1_2, K1_3⟩ := qw4 K1
          have zK1 := lt_of_heap K1.out
          try rw [← HW0.out]
          go_cut [6, 7] (fun s6 s7 wx => s6 = .int .i64 R ∧ s7 = .int .i64 0 ∧ Below W0.heap.size W0 wx)
          case first =>
            go_region_held3 (fun w' => Below W0.heap.size W0 w' ∧ w'.cell? ⟨w.heap.size, 0, none⟩ = some (.int .i64 1) ∧ w'.cell? ⟨w.heap.size, 1, none⟩ = some (.int .i64 n) ∧ w'.cell? ⟨w.heap.size, 2, none⟩ = some (.int .i64 wd) ∧ w'.cell? ⟨V1.heap.size, 0, none⟩ = some (.bool false) ∧ w'.cell? ⟨V1.heap.size, 1, none⟩ = some (.bool true) ∧ w'.cell? ⟨V1.heap.size, 2, none⟩ = some (.func (.func 103) #[] #[]) ∧ w'.cell? ⟨V1.heap.size, 3, none⟩ = some (.func (.func 104) #[] #[]))
    (first
      | ((try go_split_ands); refine ⟨(Below.refl _ _).drew, ?_, ?_, ?_, ?_, ?_, ?_, ?_⟩ <;> first | assumption | (rw [World.cell?_drew]; assumption))
      | ((try go_split_ands); refine ⟨keepS (W0 := W0) ?_ hb1, cellS (W0 := W0) ?_ hb1 ?_ ?_, cellS (W0 := W0) ?_ hb1 ?_ ?_, cellS (W0 := W0) ?_ hb1 ?_ ?_, cellS (W0 := W0) ?_ hb1 ?_ ?_, cellS (W0 := W0) ?_ hb1 ?_ ?_, cellS (W0 := W0) ?_ hb1 ?_ ?_, cellS (W0 := W0) ?_ hb1 ?_ ?_⟩ <;> first | assumption | omega)
      | ((try go_split_ands); refine ⟨keepA (W0 := W0) ?_ _, cellA (W0 := W0) ?_ _ ?_ ?_, cellA (W0 := W0) ?_ _ ?_ ?_, cellA (W0 := W0) ?_ _ ?_ ?_, cellA (W0 := W0) ?_ _ ?_ ?_, cellA (W0 := W0) ?_ _ ?_ ?_, cellA (W0 := W0) ?_ _ ?_ ?_, cellA (W0 := W0) ?_ _ ?_ ?_⟩ <;> first | assumption | omega)
      | ((try go_split_ands); refine ⟨keepAd (W0 := W0) ?_ _, cellAd (W0 := W0) ?_ _ ?_ ?_, cellAd (W0 := W0) ?_ _ ?_ ?_, cellAd (W0 := W0) ?_ _ ?_ ?_, cellAd (W0 := W0) ?_ _ ?_ ?_, cellAd (W0 := W0) ?_ _ ?_ ?_, cellAd (W0 := W0) ?_ _ ?_ ?_, cellAd (W0 := W0) ?_ _ ?_ ?_⟩ <;> first | assumption | omega | exact Below.refl _ _)
      | ((try go_split_ands); (with_reducible refine ⟨keep3 (W0 := W0) ?_ ?_ _ _ _, cell3 (W0 := W0) ?_ _ _ _ ?_ ?_, cell3 (W0 := W0) ?_ _ _ _ ?_ ?_, cell3 (W0 := W0) ?_ _ _ _ ?_ ?_, cell3 (W0 := W0) ?_ _ _ _ ?_ ?_, cell3 (W0 := W0) ?_ _ _ _ ?_ ?_, cell3 (W0 := W0) ?_ _ _ _ ?_ ?_, cell3 (W0 := W0) ?_ _ _ _ ?_ ?_⟩) <;> first | assumption | omega | exact Nat.le_refl _)
      | ((try go_split_ands); refine ⟨keep2 (W0 := W0) ?_ ?_ _ _, cell2 (W0 := W0) ?_ _ _ ?_ ?_, cell2 (W0 := W0) ?_ _ _ ?_ ?_, cell2 (W0 := W0) ?_ _ _ ?_ ?_, cell2 (W0 := W0) ?_ _ _ ?_ ?_, cell2 (W0 := W0) ?_ _ _ ?_ ?_, cell2 (W0 := W0) ?_ _ _ ?_ ?_, cell2 (W0 := W0) ?_ _ _ ?_ ?_⟩ <;> first | assumption | omega | exact Nat.le_refl _)
      | ((try go_split_ands); refine ⟨keepZ (W0 := W0) ?_ ?_ _, cellZ (W0 := W0) ?_ _ ?_ ?_, cellZ (W0 := W0) ?_ _ ?_ ?_, cellZ (W0 := W0) ?_ _ ?_ ?_, cellZ (W0 := W0) ?_ _ ?_ ?_, cellZ (W0 := W0) ?_ _ ?_ ?_, cellZ (W0 := W0) ?_ _ ?_ ?_, cellZ (W0 := W0) ?_ _ ?_ ?_⟩ <;> first | assumption | omega | exact Nat.le_refl _ | exact ⟨_, by assumption⟩))
    (first | (go_at_call 78; (with_reducible refine (H7.out _ ?_).mono ?_); (focus (refine md_keep (Lib.hid (md_keep hM HB0.out)) ?_; first | assumption | (with_reducible exact (Below.refl _ _).drew) | (go_split_ands; done) | ((try go_split_ands); assumption))); rintro e w1 ⟨rfl, hb1⟩; (try go_split_ands); have hge : W0.heap.size ≤ w1.heap.size := (by first | (refine (keepS (W0 := W0) ?_ hb1).size; assumption) | exact (hb1.size : W0.heap.size ≤ w1.heap.size)); (try have hrow := row_call hb1 hrow); (try have hrow := row_new hb1); (try have hrow := row_newd hb1); have hl1 := lt_below hb1; obtain ⟨hc1, hf1⟩ := bcell hb1; (try (have hrc := row_cellA hrow; clear hc1 hf1)); (try have hrf := row_frozA hrow)) | (go_at_call 104; (with_reducible refine (H8.out _).mono ?_); rintro e w1 ⟨rfl, hb1⟩; (try go_split_ands); have hge : W0.heap.size ≤ w1.heap.size := (by first | (refine (keepS (W0 := W0) ?_ hb1).size; assumption) | exact (hb1.size : W0.heap.size ≤ w1.heap.size)); (try have hrow := row_call hb1 hrow); (try have hrow := row_new hb1); (try have hrow := row_newd hb1); have hl1 := lt_below hb1; obtain ⟨hc1, hf1⟩ := bcell hb1; (try (have hrc := row_cellA hrow; clear hc1 hf1)); (try have hrf := row_frozA hrow)) | (go_at_call 78; refine (H7.out _ (by first | exact md_keep (Lib.hid (md_keep hM HB0.out)) (by assumption) | exact md_keep (Lib.hid (md_keep hM HB0.out)) (by (try go_split_ands); assumption) | exact md_keep (Lib.hid (md_keep hM HB0.out)) (Below.refl _ _).drew)).mono ?_; rintro e w1 ⟨rfl, hb1⟩; (try go_split_ands); have hge : W0.heap.size ≤ w1.heap.size := (by first | (refine (keepS (W0 := W0) ?_ hb1).size; assumption) | exact (hb1.size : W0.heap.size ≤ w1.heap.size)); (try have hrow := row_call hb1 hrow); (try have hrow := row_new hb1); (try have hrow := row_newd hb1); have hl1 := lt_below hb1; obtain ⟨hc1, hf1⟩ := bcell hb1; (try (have hrc := row_cellA hrow; clear hc1 hf1)); (try have hrf := row_frozA hrow)))
            all_goals (try go_split_ands)
            all_goals (go_wp2_with fail; go_meet; refine ⟨rfl, rfl, ?_⟩)
            all_goals first | (with_reducible assumption) | (with_reducible exact heap_alloc_new _ _) | (with_reducible exact row_set3 (by assumption) _ _ _) | assumption | exact heap_alloc_new _ _ | exact row_set (by assumption) _ _
          case rest =>
            obtain ⟨rfl, rfl, hB⟩ := hcut
            obtain ⟨V7, rfl⟩ : ∃ V, V = wc := ⟨_, rfl⟩
            clear A1_0 A1_1 A1_2 zA1 K1_0 K1_1 K1_2 K1_3 zK1
            replace A1 := Lib.hid (row_call hB A1.out)
            replace K1 := Lib.hid (row_call hB K1.out)
            have B7 := Lib.hid (HB0.out.trans (hB.mono HB0.out.size))
            clear hB
            obtain ⟨A1_0, A1_1, A1_2⟩ := qw3 A1
            have zA1 := lt_of_heap A1.out
            obtain ⟨K1_0, K1_1, K1_2, K1_3⟩ := qw4 K1
            have zK1 := lt_of_heap K1.out
            go_wp2
            go_ret2
            exact ⟨by rw [hv.out, he.out]; rfl, B7.out⟩
      · clear H6 H7 H8
        go_enter Tryz.func55, Tryz.ntmps55
        go_wp2_with fail
        
        refine (H1.out _).mono ?_
        rintro e V1 ⟨rfl, hb1⟩
        have B1 := nby hb1
        have A1 := Lib.hid (row_call hb1 (heap_alloc_new _ _))
        clear hb1
        obtain ⟨A1_0, A1_1, A1_2⟩ := qw3 A1
        have zA1 := lt_of_heap A1.out
        go_simp
        have hg0 := heap_alloc_new V1 (.cells #[.bool false, .bool false, .nilFunc, .nilFunc] 121)
        go_wp2_with (refine wpList_store_row (by rfl) 121 _ _ (by rfl) V1.heap.size #[.bool false, .bool true, .func (.func 103) #[] #[], .func (.func 104) #[] #[]] (by rfl) (by rfl) 121 _ hg0 (by kernel_rfl) (by rfl) (by simp [Value.oneCell']) ?_; rw [World.setRow_alloc_new]; clear hg0)
        refine (H2.out _ (by first | exact md_keep hM ((B1.out).alloc (B1.out.size) _))).mono ?_
        rintro e V2 ⟨rfl, hb2⟩
        clear A1_0 A1_1 A1_2 zA1
        have nA1K1 := Lib.hid (lt_of_heap A1.out)
        have B2 := Lib.hid (((B1.out).alloc (B1.out.size) _).trans (hb2.mono (by have := B1.out.size; first | assumption | (simp <;> omega) | (simp; done))))
        replace A1 := Lib.hid (row_call hb2 (row_alloc A1.out _))
        have K1 := Lib.hid (row_call hb2 (heap_alloc_new _ _))
        clear hb2
        obtain ⟨A1_0, A1_1, A1_2⟩ := qw3 A1
        obtain ⟨K1_0, K1_1, K1_2, K1_3⟩ := qw4 K1
        have zA1 := lt_of_heap A1.out
        have zK1 := lt_of_heap K1.out
        go_simp
        go_wp2_with fail
        refine (H3.out _).mono ?_
        rintro e V3 ⟨rfl, hb3⟩
        clear A1_0 A1_1 A1_2 zA1 K1_0 K1_1 K1_2 K1_3 zK1
        have B3 : Hid (Below w.heap.size w V3) := nbx B2 hb3
        replace A1 := rcx hb3 A1
        replace K1 := rcx hb3 K1
        clear hb3
        obtain ⟨A1_0, A1_1, A1_2⟩ := qw3 A1
        obtain ⟨K1_0, K1_1, K1_2, K1_3⟩ := qw4 K1
        have zA1 := lt_of_heap A1.out
        have zK1 := lt_of_heap K1.out
        go_simp
        go_wp2_with fail
        refine (H4.out _).mono ?_
        rintro e V4 ⟨rfl, hb4⟩
        clear A1_0 A1_1 A1_2 zA1 K1_0 K1_1 K1_2 K1_3 zK1
        have B4 : Hid (Below w.heap.size w V4) := nbx B3 hb4
        replace A1 := rcx hb4 A1
        replace K1 := rcx hb4 K1
        clear hb4
        obtain ⟨A1_0, A1_1, A1_2⟩ := qw3 A1
        obtain ⟨K1_0, K1_1, K1_2, K1_3⟩ := qw4 K1
        have zA1 := lt_of_heap A1.out
        have zK1 := lt_of_heap K1.out
        go_simp
        go_wp2_with fail
        refine (H5.out _).mono ?_
        rintro e V5 ⟨rfl, hb5⟩
        clear A1_0 A1_1 A1_2 zA1 K1_0 K1_1 K1_2 K1_3 zK1
        have B5 : Hid (Below w.heap.size w V5) := nbx B4 hb5
        replace A1 := rcx hb5 A1
        replace K1 := rcx hb5 K1
        clear hb5
        obtain ⟨A1_0, A1_1, A1_2⟩ := qw3 A1
        obtain ⟨K1_0, K1_1, K1_2, K1_3⟩ := qw4 K1
        have zA1 := lt_of_heap A1.out
        have zK1 := lt_of_heap K1.out
        go_simp
        go_wp2
        go_ret2
        exact ⟨by rw [hv.out, he.out]; rfl, B5.out⟩
set_option maxHeartbeats 6400000 in
set_option maxRecDepth 100000 in
theorem pYrW_2 (n wd y m F M R v er : Int) (t u q x : Bool) (hv : v = if t = true then (if u = true then (if q = true then 0 else if x = true then R else 0) else 0) else 0) (he : er = if t = true then (if u = true then (if q = true then 7 else if x = true then 0 else 8) else 5) else 5)
    (H2 : Hid (∀ w, MD w → Calls Tryz.prog 75 #[.int .i64 y, .int .i64 m] w fun e w' => e = .returned (.int .i64 M) ∧ Below w.heap.size w w'))
    (H3 : Hid (∀ w, Calls Tryz.prog 76 #[.agg #[.bool true, .bool true, .func (.func 103) #[] #[], .func (.func 105) #[] #[]], .agg #[.int .i64 2, .int .i64 n, .int .i64 wd]] w fun e w' => e = .returned (.bool t) ∧ Below w.heap.size w w'))
    (H4 : Hid (∀ w, Calls Tryz.prog 77 #[.int .i64 m, .int .i64 1, .int .i64 12] w fun e w' => e = .returned (.bool u) ∧ Below w.heap.size w w'))
    (H5 : Hid (∀ w, Calls Tryz.prog 103 #[.agg #[.int .i64 2, .int .i64 n, .int .i64 wd], .int .i64 M] w fun e w' => e = .returned (.bool q) ∧ Below w.heap.size w w'))
    (H6 : Hid (∀ w, Calls Tryz.prog 77 #[.int .i64 y, .int .i64 (-9999), .int .i64 10000] w fun e w' => e = .returned (.bool x) ∧ Below w.heap.size w w'))
    (H7 : t = true → u = true → x = true → Hid (∀ w, MD w → Calls Tryz.prog 78 #[.int .i64 y, .int .i64 m] w fun e w' => e = .returned (.int .i64 F) ∧ Below w.heap.size w w'))
    (H8 : t = true → u = true → x = true → Hid (∀ w, Calls Tryz.prog 105 #[.agg #[.int .i64 2, .int .i64 n, .int .i64 wd], .agg #[.int .i64 F, .int .i64 M]] w fun e w' => e = .returned (.int .i64 R) ∧ Below w.heap.size w w'))
    (w : World) (hM : MD w) : Calls Tryz.prog 55 #[.agg #[.int .i64 2, .int .i64 n, .int .i64 wd], .int .i64 y, .int .i64 m] w fun e w' => e = .returned (.tuple #[.int .i64 v, .int .i64 er]) ∧ Below w.heap.size w w' := by
  have H1 := Lib.hid yKind_2
  replace hM := Lib.hid hM
  replace hv := Lib.hid hv
  replace he := Lib.hid he
  cases t
  · clear H4 H5 H6 H7 H8
    go_enter Tryz.func55, Tryz.ntmps55
    go_wp2_with fail
    
    refine (H1.out _).mono ?_
    rintro e V1 ⟨rfl, hb1⟩
    have B1 := nby hb1
    have A1 := Lib.hid (row_call hb1 (heap_alloc_new _ _))
    clear hb1
    obtain ⟨A1_0, A1_1, A1_2⟩ := qw3 A1
    have zA1 := lt_of_heap A1.out
    go_simp
    have hg0 := heap_alloc_new V1 (.cells #[.bool false, .bool false, .nilFunc, .nilFunc] 121)
    go_wp2_with (refine wpList_store_row (by rfl) 121 _ _ (by rfl) V1.heap.size #[.bool true, .bool true, .func (.func 103) #[] #[], .func (.func 105) #[] #[]] (by rfl) (by rfl) 121 _ hg0 (by kernel_rfl) (by rfl) (by simp [Value.oneCell']) ?_; rw [World.setRow_alloc_new]; clear hg0)
    refine (H2.out _ (by first | exact md_keep hM ((B1.out).alloc (B1.out.size) _))).mono ?_
    rintro e V2 ⟨rfl, hb2⟩
    clear A1_0 A1_1 A1_2 zA1
    have nA1K1 := Lib.hid (lt_of_heap A1.out)
    have B2 := Lib.hid (((B1.out).alloc (B1.out.size) _).trans (hb2.mono (by have := B1.out.size; first | assumption | (simp <;> omega) | (simp; done))))
    replace A1 := Lib.hid (row_call hb2 (row_alloc A1.out _))
    have K1 := Lib.hid (row_call hb2 (heap_alloc_new _ _))
    clear hb2
    obtain ⟨A1_0, A1_1, A1_2⟩ := qw3 A1
    obtain ⟨K1_0, K1_1, K1_2, K1_3⟩ := qw4 K1
    have zA1 := lt_of_heap A1.out
    have zK1 := lt_of_heap K1.out
    go_simp
    go_wp2_with fail
    refine (H3.out _).mono ?_
    rintro e V3 ⟨rfl, hb3⟩
    clear A1_0 A1_1 A1_2 zA1 K1_0 K1_1 K1_2 K1_3 zK1
    have B3 : Hid (Below w.heap.size w V3) := nbx B2 hb3
    replace A1 := rcx hb3 A1
    replace K1 := rcx hb3 K1
    clear hb3
    obtain ⟨A1_0, A1_1, A1_2⟩ := qw3 A1
    obtain ⟨K1_0, K1_1, K1_2, K1_3⟩ := qw4 K1
    have zA1 := lt_of_heap A1.out
    have zK1 := lt_of_heap K1.out
    go_simp
    go_wp2
    go_ret2
    exact ⟨by rw [hv.out, he.out]; rfl, B3.out⟩
  · cases u
    · clear H5 H6 H7 H8
      go_enter Tryz.func55, Tryz.ntmps55
      go_wp2_with fail
      
      refine (H1.out _).mono ?_
      rintro e V1 ⟨rfl, hb1⟩
      have B1 := nby hb1
      have A1 := Lib.hid (row_call hb1 (heap_alloc_new _ _))
      clear hb1
      obtain ⟨A1_0, A1_1, A1_2⟩ := qw3 A1
      have zA1 := lt_of_heap A1.out
      go_simp
      have hg0 := heap_alloc_new V1 (.cells #[.bool false, .bool false, .nilFunc, .nilFunc] 121)
      go_wp2_with (refine wpList_store_row (by rfl) 121 _ _ (by rfl) V1.heap.size #[.bool true, .bool true, .func (.func 103) #[] #[], .func (.func 105) #[] #[]] (by rfl) (by rfl) 121 _ hg0 (by kernel_rfl) (by rfl) (by simp [Value.oneCell']) ?_; rw [World.setRow_alloc_new]; clear hg0)
      refine (H2.out _ (by first | exact md_keep hM ((B1.out).alloc (B1.out.size) _))).mono ?_
      rintro e V2 ⟨rfl, hb2⟩
      clear A1_0 A1_1 A1_2 zA1
      have nA1K1 := Lib.hid (lt_of_heap A1.out)
      have B2 := Lib.hid (((B1.out).alloc (B1.out.size) _).trans (hb2.mono (by have := B1.out.size; first | assumption | (simp <;> omega) | (simp; done))))
      replace A1 := Lib.hid (row_call hb2 (row_alloc A1.out _))
      have K1 := Lib.hid (row_call hb2 (heap_alloc_new _ _))
      clear hb2
      obtain ⟨A1_0, A1_1, A1_2⟩ := qw3 A1
      obtain ⟨K1_0, K1_1, K1_2, K1_3⟩ := qw4 K1
      have zA1 := lt_of_heap A1.out
      have zK1 := lt_of_heap K1.out
      go_simp
      go_wp2_with fail
      refine (H3.out _).mono ?_
      rintro e V3 ⟨rfl, hb3⟩
      clear A1_0 A1_1 A1_2 zA1 K1_0 K1_1 K1_2 K1_3 zK1
      have B3 : Hid (Below w.heap.size w V3) := nbx B2 hb3
      replace A1 := rcx hb3 A1
      replace K1 := rcx hb3 K1
      clear hb3
      obtain ⟨A1_0, A1_1, A1_2⟩ := qw3 A1
      obtain ⟨K1_0, K1_1, K1_2, K1_3⟩ := qw4 K1
      have zA1 := lt_of_heap A1.out
      have zK1 := lt_of_heap K1.out
      go_simp
      go_wp2_with fail
      refine (H4.out _).mono ?_
      rintro e V4 ⟨rfl, hb4⟩
      clear A1_0 A1_1 A1_2 zA1 K1_0 K1_1 K1_2 K1_3 zK1
      have B4 : Hid (Below w.heap.size w V4) := nbx B3 hb4
      replace A1 := rcx hb4 A1
      replace K1 := rcx hb4 K1
      clear hb4
      obtain ⟨A1_0, A1_1, A1_2⟩ := qw3 A1
      obtain ⟨K1_0, K1_1, K1_2, K1_3⟩ := qw4 K1
      have zA1 := lt_of_heap A1.out
      have zK1 := lt_of_heap K1.out
      go_simp
      go_wp2
      go_ret2
      exact ⟨by rw [hv.out, he.out]; rfl, B4.out⟩
    · cases q
      · cases x
        · clear H7 H8
          go_enter Tryz.func55, Tryz.ntmps55
          go_wp2_with fail
          
          refine (H1.out _).mono ?_
          rintro e V1 ⟨rfl, hb1⟩
          have B1 := nby hb1
          have A1 := Lib.hid (row_call hb1 (heap_alloc_new _ _))
          clear hb1
          obtain ⟨A1_0, A1_1, A1_2⟩ := qw3 A1
          have zA1 := lt_of_heap A1.out
          go_simp
          have hg0 := heap_alloc_new V1 (.cells #[.bool false, .bool false, .nilFunc, .nilFunc] 121)
          go_wp2_with (refine wpList_store_row (by rfl) 121 _ _ (by rfl) V1.heap.size #[.bool true, .bool true, .func (.func 103) #[] #[], .func (.func 105) #[] #[]] (by rfl) (by rfl) 121 _ hg0 (by kernel_rfl) (by rfl) (by simp [Value.oneCell']) ?_; rw [World.setRow_alloc_new]; clear hg0)
          refine (H2.out _ (by first | exact md_keep hM ((B1.out).alloc (B1.out.size) _))).mono ?_
          rintro e V2 ⟨rfl, hb2⟩
          clear A1_0 A1_1 A1_2 zA1
          have nA1K1 := Lib.hid (lt_of_heap A1.out)
          have B2 := Lib.hid (((B1.out).alloc (B1.out.size) _).trans (hb2.mono (by have := B1.out.size; first | assumption | (simp <;> omega) | (simp; done))))
          replace A1 := Lib.hid (row_call hb2 (row_alloc A1.out _))
          have K1 := Lib.hid (row_call hb2 (heap_alloc_new _ _))
          clear hb2
          obtain ⟨A1_0, A1_1, A1_2⟩ := qw3 A1
          obtain ⟨K1_0, K1_1, K1_2, K1_3⟩ := qw4 K1
          have zA1 := lt_of_heap A1.out
          have zK1 := lt_of_heap K1.out
          go_simp
          go_wp2_with fail
          refine (H3.out _).mono ?_
          rintro e V3 ⟨rfl, hb3⟩
          clear A1_0 A1_1 A1_2 zA1 K1_0 K1_1 K1_2 K1_3 zK1
          have B3 : Hid (Below w.heap.size w V3) := nbx B2 hb3
          replace A1 := rcx hb3 A1
          replace K1 := rcx hb3 K1
          clear hb3
          obtain ⟨A1_0, A1_1, A1_2⟩ := qw3 A1
          obtain ⟨K1_0, K1_1, K1_2, K1_3⟩ := qw4 K1
          have zA1 := lt_of_heap A1.out
          have zK1 := lt_of_heap K1.out
          go_simp
          go_wp2_with fail
          refine (H4.out _).mono ?_
          rintro e V4 ⟨rfl, hb4⟩
          clear A1_0 A1_1 A1_2 zA1 K1_0 K1_1 K1_2 K1_3 zK1
          have B4 : Hid (Below w.heap.size w V4) := nbx B3 hb4
          replace A1 := rcx hb4 A1
          replace K1 := rcx hb4 K1
          clear hb4
          obtain ⟨A1_0, A1_1, A1_2⟩ := qw3 A1
          obtain ⟨K1_0, K1_1, K1_2, K1_3⟩ := qw4 K1
          have zA1 := lt_of_heap A1.out
          have zK1 := lt_of_heap K1.out
          go_simp
          go_wp2_with fail
          refine (H5.out _).mono ?_
          rintro e V5 ⟨rfl, hb5⟩
          clear A1_0 A1_1 A1_2 zA1 K1_0 K1_1 K1_2 K1_3 zK1
          have B5 : Hid (Below w.heap.size w V5) := nbx B4 hb5
          replace A1 := rcx hb5 A1
          replace K1 := rcx hb5 K1
          clear hb5
          obtain ⟨A1_0, A1_1, A1_2⟩ := qw3 A1
          obtain ⟨K1_0, K1_1, K1_2, K1_3⟩ := qw4 K1
          have zA1 := lt_of_heap A1.out
          have zK1 := lt_of_heap K1.out
          go_simp
          go_wp2_with fail
          refine (H6.out _).mono ?_
          rintro e V6 ⟨rfl, hb6⟩
          clear A1_0 A1_1 A1_2 zA1 K1_0 K1_1 K1_2 K1_3 zK1
          have B6 : Hid (Below w.heap.size w V6) := nbx B5 hb6
          replace A1 := rcx hb6 A1
          replace K1 := rcx hb6 K1
          clear hb6
          obtain ⟨A1_0, A1_1, A1_2⟩ := qw3 A1
          obtain ⟨K1_0, K1_1, K1_2, K1_3⟩ := qw4 K1
          have zA1 := lt_of_heap A1.out
          have zK1 := lt_of_heap K1.out
          go_simp
          go_wp2
          go_ret2
          exact ⟨by rw [hv.out, he.out]; rfl, B6.out⟩
        · replace H7 := H7 rfl rfl rfl
          replace H8 := H8 rfl rfl rfl
          go_enter Tryz.func55, Tryz.ntmps55
          go_wp2_with fail
          
          refine (H1.out _).mono ?_
          rintro e V1 ⟨rfl, hb1⟩
          have B1 := nby hb1
          have A1 := Lib.hid (row_call hb1 (heap_alloc_new _ _))
          clear hb1
          obtain ⟨A1_0, A1_1, A1_2⟩ := qw3 A1
          have zA1 := lt_of_heap A1.out
          go_simp
          have hg0 := heap_alloc_new V1 (.cells #[.bool false, .bool false, .nilFunc, .nilFunc] 121)
          go_wp2_with (refine wpList_store_row (by rfl) 121 _ _ (by rfl) V1.heap.size #[.bool true, .bool true, .func (.func 103) #[] #[], .func (.func 105) #[] #[]] (by rfl) (by rfl) 121 _ hg0 (by kernel_rfl) (by rfl) (by simp [Value.oneCell']) ?_; rw [World.setRow_alloc_new]; clear hg0)
          refine (H2.out _ (by first | exact md_keep hM ((B1.out).alloc (B1.out.size) _))).mono ?_
          rintro e V2 ⟨rfl, hb2⟩
          clear A1_0 A1_1 A1_2 zA1
          have nA1K1 := Lib.hid (lt_of_heap A1.out)
          have B2 := Lib.hid (((B1.out).alloc (B1.out.size) _).trans (hb2.mono (by have := B1.out.size; first | assumption | (simp <;> omega) | (simp; done))))
          replace A1 := Lib.hid (row_call hb2 (row_alloc A1.out _))
          have K1 := Lib.hid (row_call hb2 (heap_alloc_new _ _))
          clear hb2
          obtain ⟨A1_0, A1_1, A1_2⟩ := qw3 A1
          obtain ⟨K1_0, K1_1, K1_2, K1_3⟩ := qw4 K1
          have zA1 := lt_of_heap A1.out
          have zK1 := lt_of_heap K1.out
          go_simp
          go_wp2_with fail
          refine (H3.out _).mono ?_
          rintro e V3 ⟨rfl, hb3⟩
          clear A1_0 A1_1 A1_2 zA1 K1_0 K1_1 K1_2 K1_3 zK1
          have B3 : Hid (Below w.heap.size w V3) := nbx B2 hb3
          replace A1 := rcx hb3 A1
          replace K1 := rcx hb3 K1
          clear hb3
          obtain ⟨A1_0, A1_1, A1_2⟩ := qw3 A1
          obtain ⟨K1_0, K1_1, K1_2, K1_3⟩ := qw4 K1
          have zA1 := lt_of_heap A1.out
          have zK1 := lt_of_heap K1.out
          go_simp
          go_wp2_with fail
          refine (H4.out _).mono ?_
          rintro e V4 ⟨rfl, hb4⟩
          clear A1_0 A1_1 A1_2 zA1 K1_0 K1_1 K1_2 K1_3 zK1
          have B4 : Hid (Below w.heap.size w V4) := nbx B3 hb4
          replace A1 := rcx hb4 A1
          replace K1 := rcx hb4 K1
          clear hb4
          obtain ⟨A1_0, A1_1, A1_2⟩ := qw3 A1
          obtain ⟨K1_0, K1_1, K1_2, K1_3⟩ := qw4 K1
          have zA1 := lt_of_heap A1.out
          have zK1 := lt_of_heap K1.out
          go_simp
          go_wp2_with fail
          refine (H5.out _).mono ?_
          rintro e V5 ⟨rfl, hb5⟩
          clear A1_0 A1_1 A1_2 zA1 K1_0 K1_1 K1_2 K1_3 zK1
          have B5 : Hid (Below w.heap.size w V5) := nbx B4 hb5
          replace A1 := rcx hb5 A1
          replace K1 := rcx hb5 K1
          clear hb5
          obtain ⟨A1_0, A1_1, A1_2⟩ := qw3 A1
          obtain ⟨K1_0, K1_1, K1_2, K1_3⟩ := qw4 K1
          have zA1 := lt_of_heap A1.out
          have zK1 := lt_of_heap K1.out
          go_simp
          go_wp2_with fail
          refine (H6.out _).mono ?_
          rintro e V6 ⟨rfl, hb6⟩
          clear A1_0 A1_1 A1_2 zA1 K1_0 K1_1 K1_2 K1_3 zK1
          have B6 : Hid (Below w.heap.size w V6) := nbx B5 hb6
          replace A1 := rcx hb6 A1
          replace K1 := rcx hb6 K1
          clear hb6
          obtain ⟨A1_0, A1_1, A1_2⟩ := qw3 A1
          obtain ⟨K1_0, K1_1, K1_2, K1_3⟩ := qw4 K1
          have zA1 := lt_of_heap A1.out
          have zK1 := lt_of_heap K1.out
          go_simp
          go_wp2_with fail
          clear A1_0 A1_1 A1_2 zA1 K1_0 K1_1 K1_2 K1_3 zK1
          obtain ⟨W0, hW0⟩ : ∃ W0, W0 = V6 := ⟨_, rfl⟩
          replace A1 := Lib.hid (row_by hW0 A1.out)
          replace K1 := Lib.hid (row_by hW0 K1.out)
          have HB0 := Lib.hid (below_by hW0 (B6.out))
          have HW0 := Lib.hid hW0
          clear hW0
          obtain ⟨A1_0, A1_1, A1_2⟩ := qw3 A1
          have zA1 := lt_of_heap A1.out
          obtain ⟨K1_0, K1_1, K1_2, K1_3⟩ := qw4 K1
          have zK1 := lt_of_heap K1.out
          try rw [← HW0.out]
          go_cut [6, 7] (fun s6 s7 wx => s6 = .int .i64 R ∧ s7 = .int .i64 0 ∧ Below W0.heap.size W0 wx)
          case first =>
            go_region_held3 (fun w' => Below W0.heap.size W0 w' ∧ w'.cell? ⟨w.heap.size, 0, none⟩ = some (.int .i64 2) ∧ w'.cell? ⟨w.heap.size, 1, none⟩ = some (.int .i64 n) ∧ w'.cell? ⟨w.heap.size, 2, none⟩ = some (.int .i64 wd) ∧ w'.cell? ⟨V1.heap.size, 0, none⟩ = some (.bool true) ∧ w'.cell? ⟨V1.heap.size, 1, none⟩ = some (.bool true) ∧ w'.cell? ⟨V1.heap.size, 2, none⟩ = some (.func (.func 103) #[] #[]) ∧ w'.cell? ⟨V1.heap.size, 3, none⟩ = some (.func (.func 105) #[] #[]))
    (first
      | ((try go_split_ands); refine ⟨(Below.refl _ _).drew, ?_, ?_, ?_, ?_, ?_, ?_, ?_⟩ <;> first | assumption | (rw [World.cell?_drew]; assumption))
      | ((try go_split_ands); refine ⟨keepS (W0 := W0) ?_ hb1, cellS (W0 := W0) ?_ hb1 ?_ ?_, cellS (W0 := W0) ?_ hb1 ?_ ?_, cellS (W0 := W0) ?_ hb1 ?_ ?_, cellS (W0 := W0) ?_ hb1 ?_ ?_, cellS (W0 := W0) ?_ hb1 ?_ ?_, cellS (W0 := W0) ?_ hb1 ?_ ?_, cellS (W0 := W0) ?_ hb1 ?_ ?_⟩ <;> first | assumption | omega)
      | ((try go_split_ands); refine ⟨keepA (W0 := W0) ?_ _, cellA (W0 := W0) ?_ _ ?_ ?_, cellA (W0 := W0) ?_ _ ?_ ?_, cellA (W0 := W0) ?_ _ ?_ ?_, cellA (W0 := W0) ?_ _ ?_ ?_, cellA (W0 := W0) ?_ _ ?_ ?_, cellA (W0 := W0) ?_ _ ?_ ?_, cellA (W0 := W0) ?_ _ ?_ ?_⟩ <;> first | assumption | omega)
      | ((try go_split_ands); refine ⟨keepAd (W0 := W0) ?_ _, cellAd (W0 := W0) ?_ _ ?_ ?_, cellAd (W0 := W0) ?_ _ ?_ ?_, cellAd (W0 := W0) ?_ _ ?_ ?_, cellAd (W0 := W0) ?_ _ ?_ ?_, cellAd (W0 := W0) ?_ _ ?_ ?_, cellAd (W0 := W0) ?_ _ ?_ ?_, cellAd (W0 := W0) ?_ _ ?_ ?_⟩ <;> first | assumption | omega | exact Below.refl _ _)
      | ((try go_split_ands); (with_reducible refine ⟨keep3 (W0 := W0) ?_ ?_ _ _ _, cell3 (W0 := W0) ?_ _ _ _ ?_ ?_, cell3 (W0 := W0) ?_ _ _ _ ?_ ?_, cell3 (W0 := W0) ?_ _ _ _ ?_ ?_, cell3 (W0 := W0) ?_ _ _ _ ?_ ?_, cell3 (W0 := W0) ?_ _ _ _ ?_ ?_, cell3 (W0 := W0) ?_ _ _ _ ?_ ?_, cell3 (W0 := W0) ?_ _ _ _ ?_ ?_⟩) <;> first | assumption | omega | exact Nat.le_refl _)
      | ((try go_split_ands); refine ⟨keep2 (W0 := W0) ?_ ?_ _ _, cell2 (W0 := W0) ?_ _ _ ?_ ?_, cell2 (W0 := W0) ?_ _ _ ?_ ?_, cell2 (W0 := W0) ?_ _ _ ?_ ?_, cell2 (W0 := W0) ?_ _ _ ?_ ?_, cell2 (W0 := W0) ?_ _ _ ?_ ?_, cell2 (W0 := W0) ?_ _ _ ?_ ?_, cell2 (W0 := W0) ?_ _ _ ?_ ?_⟩ <;> first | assumption | omega | exact Nat.le_refl _)
      | ((try go_split_ands); refine ⟨keepZ (W0 := W0) ?_ ?_ _, cellZ (W0 := W0) ?_ _ ?_ ?_, cellZ (W0 := W0) ?_ _ ?_ ?_, cellZ (W0 := W0) ?_ _ ?_ ?_, cellZ (W0 := W0) ?_ _ ?_ ?_, cellZ (W0 := W0) ?_ _ ?_ ?_, cellZ (W0 := W0) ?_ _ ?_ ?_, cellZ (W0 := W0) ?_ _ ?_ ?_⟩ <;> first | assumption | omega | exact Nat.le_refl _ | exact ⟨_, by assumption⟩))
    (first | (go_at_call 78; (with_reducible refine (H7.out _ ?_).mono ?_); (focus (refine md_keep (Lib.hid (md_keep hM HB0.out)) ?_; first | assumption | (with_reducible exact (Below.refl _ _).drew) | (go_split_ands; done) | ((try go_split_ands); assumption))); rintro e w1 ⟨rfl, hb1⟩; (try go_split_ands); have hge : W0.heap.size ≤ w1.heap.size := (by first | (refine (keepS (W0 := W0) ?_ hb1).size; assumption) | exact (hb1.size : W0.heap.size ≤ w1.heap.size)); (try have hrow := row_call hb1 hrow); (try have hrow := row_new hb1); (try have hrow := row_newd hb1); have hl1 := lt_below hb1; obtain ⟨hc1, hf1⟩ := bcell hb1; (try (have hrc := row_cellA hrow; clear hc1 hf1)); (try have hrf := row_frozA hrow)) | (go_at_call 105; (with_reducible refine (H8.out _).mono ?_); rintro e w1 ⟨rfl, hb1⟩; (try go_split_ands); have hge : W0.heap.size ≤ w1.heap.size := (by first | (refine (keepS (W0 := W0) ?_ hb1).size; assumption) | exact (hb1.size : W0.heap.size ≤ w1.heap.size)); (try have hrow := row_call hb1 hrow); (try have hrow := row_new hb1); (try have hrow := row_newd hb1); have hl1 := lt_below hb1; obtain ⟨hc1, hf1⟩ := bcell hb1; (try (have hrc := row_cellA hrow; clear hc1 hf1)); (try have hrf := row_frozA hrow)) | (go_at_call 78; refine (H7.out _ (by first | exact md_keep (Lib.hid (md_keep hM HB0.out)) (by assumption) | exact md_keep (Lib.hid (md_keep hM HB0.out)) (by (try go_split_ands); assumption) | exact md_keep (Lib.hid (md_keep hM HB0.out)) (Below.refl _ _).drew)).mono ?_; rintro e w1 ⟨rfl, hb1⟩; (try go_split_ands); have hge : W0.heap.size ≤ w1.heap.size := (by first | (refine (keepS (W0 := W0) ?_ hb1).size; assumption) | exact (hb1.size : W0.heap.size ≤ w1.heap.size)); (try have hrow := row_call hb1 hrow); (try have hrow := row_new hb1); (try have hrow := row_newd hb1); have hl1 := lt_below hb1; obtain ⟨hc1, hf1⟩ := bcell hb1; (try (have hrc := row_cellA hrow; clear hc1 hf1)); (try have hrf := row_frozA hrow)))
            all_goals (try go_split_ands)
            all_goals (go_wp2_with fail; go_meet; refine ⟨rfl, rfl, ?_⟩)
            all_goals first | (with_reducible assumption) | (with_reducible exact heap_alloc_new _ _) | (with_reducible exact row_set3 (by assumption) _ _ _) | assumption | exact heap_alloc_new _ _ | exact row_set (by assumption) _ _
          case rest =>
            obtain ⟨rfl, rfl, hB⟩ := hcut
            obtain ⟨V7, rfl⟩ : ∃ V, V = wc := ⟨_, rfl⟩
            clear A1_0 A1_1 A1_2 zA1 K1_0 K1_1 K1_2 K1_3 zK1
            replace A1 := Lib.hid (row_call hB A1.out)
            replace K1 := Lib.hid (row_call hB K1.out)
            have B7 := Lib.hid (HB0.out.trans (hB.mono HB0.out.size))
            clear hB
            obtain ⟨A1_0, A1_1, A1_2⟩ := qw3 A1
            have zA1 := lt_of_heap A1.out
            obtain ⟨K1_0, K1_1, K1_2, K1_3⟩ := qw4 K1
            have zK1 := lt_of_heap K1.out
            go_wp2
            go_ret2
            exact ⟨by rw [hv.out, he.out]; rfl, B7.out⟩
      · clear H6 H7 H8
        go_enter Tryz.func55, Tryz.ntmps55
        go_wp2_with fail
        
        refine (H1.out _).mono ?_
        rintro e V1 ⟨rfl, hb1⟩
        have B1 := nby hb1
        have A1 := Lib.hid (row_call hb1 (heap_alloc_new _ _))
        clear hb1
        obtain ⟨A1_0, A1_1, A1_2⟩ := qw3 A1
        have zA1 := lt_of_heap A1.out
        go_simp
        have hg0 := heap_alloc_new V1 (.cells #[.bool false, .bool false, .nilFunc, .nilFunc] 121)
        go_wp2_with (refine wpList_store_row (by rfl) 121 _ _ (by rfl) V1.heap.size #[.bool true, .bool true, .func (.func 103) #[] #[], .func (.func 105) #[] #[]] (by rfl) (by rfl) 121 _ hg0 (by kernel_rfl) (by rfl) (by simp [Value.oneCell']) ?_; rw [World.setRow_alloc_new]; clear hg0)
        refine (H2.out _ (by first | exact md_keep hM ((B1.out).alloc (B1.out.size) _))).mono ?_
        rintro e V2 ⟨rfl, hb2⟩
        clear A1_0 A1_1 A1_2 zA1
        have nA1K1 := Lib.hid (lt_of_heap A1.out)
        have B2 := Lib.hid (((B1.out).alloc (B1.out.size) _).trans (hb2.mono (by have := B1.out.size; first | assumption | (simp <;> omega) | (simp; done))))
        replace A1 := Lib.hid (row_call hb2 (row_alloc A1.out _))
        have K1 := Lib.hid (row_call hb2 (heap_alloc_new _ _))
        clear hb2
        obtain ⟨A1_0, A1_1, A1_2⟩ := qw3 A1
        obtain ⟨K1_0, K1_1, K1_2, K1_3⟩ := qw4 K1
        have zA1 := lt_of_heap A1.out
        have zK1 := lt_of_heap K1.out
        go_simp
        go_wp2_with fail
        refine (H3.out _).mono ?_
        rintro e V3 ⟨rfl, hb3⟩
        clear A1_0 A1_1 A1_2 zA1 K1_0 K1_1 K1_2 K1_3 zK1
        have B3 : Hid (Below w.heap.size w V3) := nbx B2 hb3
        replace A1 := rcx hb3 A1
        replace K1 := rcx hb3 K1
        clear hb3
        obtain ⟨A1_0, A1_1, A1_2⟩ := qw3 A1
        obtain ⟨K1_0, K1_1, K1_2, K1_3⟩ := qw4 K1
        have zA1 := lt_of_heap A1.out
        have zK1 := lt_of_heap K1.out
        go_simp
        go_wp2_with fail
        refine (H4.out _).mono ?_
        rintro e V4 ⟨rfl, hb4⟩
        clear A1_0 A1_1 A1_2 zA1 K1_0 K1_1 K1_2 K1_3 zK1
        have B4 : Hid (Below w.heap.size w V4) := nbx B3 hb4
        replace A1 := rcx hb4 A1
        replace K1 := rcx hb4 K1
        clear hb4
        obtain ⟨A1_0, A1_1, A1_2⟩ := qw3 A1
        obtain ⟨K1_0, K1_1, K1_2, K1_3⟩ := qw4 K1
        have zA1 := lt_of_heap A1.out
        have zK1 := lt_of_heap K1.out
        go_simp
        go_wp2_with fail
        refine (H5.out _).mono ?_
        rintro e V5 ⟨rfl, hb5⟩
        clear A1_0 A1_1 A1_2 zA1 K1_0 K1_1 K1_2 K1_3 zK1
        have B5 : Hid (Below w.heap.size w V5) := nbx B4 hb5
        replace A1 := rcx hb5 A1
        replace K1 := rcx hb5 K1
        clear hb5
        obtain ⟨A1_0, A1_1, A1_2⟩ := qw3 A1
        obtain ⟨K1_0, K1_1, K1_2, K1_3⟩ := qw4 K1
        have zA1 := lt_of_heap A1.out
        have zK1 := lt_of_heap K1.out
        go_simp
        go_wp2
        go_ret2
        exact ⟨by rw [hv.out, he.out]; rfl, B5.out⟩
set_option maxHeartbeats 6400000 in
set_option maxRecDepth 100000 in
theorem pYrW_3 (n wd y m F M R v er : Int) (t u q x : Bool) (hv : v = if t = true then (if u = true then (if q = true then 0 else if x = true then R else 0) else 0) else 0) (he : er = if t = true then (if u = true then (if q = true then 7 else if x = true then 0 else 8) else 5) else 5)
    (H2 : Hid (∀ w, MD w → Calls Tryz.prog 75 #[.int .i64 y, .int .i64 m] w fun e w' => e = .returned (.int .i64 M) ∧ Below w.heap.size w w'))
    (H3 : Hid (∀ w, Calls Tryz.prog 76 #[.agg #[.bool true, .bool true, .func (.func 103) #[] #[], .func (.func 106) #[] #[]], .agg #[.int .i64 3, .int .i64 n, .int .i64 wd]] w fun e w' => e = .returned (.bool t) ∧ Below w.heap.size w w'))
    (H4 : Hid (∀ w, Calls Tryz.prog 77 #[.int .i64 m, .int .i64 1, .int .i64 12] w fun e w' => e = .returned (.bool u) ∧ Below w.heap.size w w'))
    (H5 : Hid (∀ w, Calls Tryz.prog 103 #[.agg #[.int .i64 3, .int .i64 n, .int .i64 wd], .int .i64 M] w fun e w' => e = .returned (.bool q) ∧ Below w.heap.size w w'))
    (H6 : Hid (∀ w, Calls Tryz.prog 77 #[.int .i64 y, .int .i64 (-9999), .int .i64 10000] w fun e w' => e = .returned (.bool x) ∧ Below w.heap.size w w'))
    (H7 : t = true → u = true → x = true → Hid (∀ w, MD w → Calls Tryz.prog 78 #[.int .i64 y, .int .i64 m] w fun e w' => e = .returned (.int .i64 F) ∧ Below w.heap.size w w'))
    (H8 : t = true → u = true → x = true → Hid (∀ w, Calls Tryz.prog 106 #[.agg #[.int .i64 3, .int .i64 n, .int .i64 wd], .agg #[.int .i64 F, .int .i64 M]] w fun e w' => e = .returned (.int .i64 R) ∧ Below w.heap.size w w'))
    (w : World) (hM : MD w) : Calls Tryz.prog 55 #[.agg #[.int .i64 3, .int .i64 n, .int .i64 wd], .int .i64 y, .int .i64 m] w fun e w' => e = .returned (.tuple #[.int .i64 v, .int .i64 er]) ∧ Below w.heap.size w w' := by
  have H1 := Lib.hid yKind_3
  replace hM := Lib.hid hM
  replace hv := Lib.hid hv
  replace he := Lib.hid he
  cases t
  · clear H4 H5 H6 H7 H8
    go_enter Tryz.func55, Tryz.ntmps55
    go_wp2_with fail
    
    refine (H1.out _).mono ?_
    rintro e V1 ⟨rfl, hb1⟩
    have B1 := nby hb1
    have A1 := Lib.hid (row_call hb1 (heap_alloc_new _ _))
    clear hb1
    obtain ⟨A1_0, A1_1, A1_2⟩ := qw3 A1
    have zA1 := lt_of_heap A1.out
    go_simp
    have hg0 := heap_alloc_new V1 (.cells #[.bool false, .bool false, .nilFunc, .nilFunc] 121)
    go_wp2_with (refine wpList_store_row (by rfl) 121 _ _ (by rfl) V1.heap.size #[.bool true, .bool true, .func (.func 103) #[] #[], .func (.func 106) #[] #[]] (by rfl) (by rfl) 121 _ hg0 (by kernel_rfl) (by rfl) (by simp [Value.oneCell']) ?_; rw [World.setRow_alloc_new]; clear hg0)
    refine (H2.out _ (by first | exact md_keep hM ((B1.out).alloc (B1.out.size) _))).mono ?_
    rintro e V2 ⟨rfl, hb2⟩
    clear A1_0 A1_1 A1_2 zA1
    have nA1K1 := Lib.hid (lt_of_heap A1.out)
    have B2 := Lib.hid (((B1.out).alloc (B1.out.size) _).trans (hb2.mono (by have := B1.out.size; first | assumption | (simp <;> omega) | (simp; done))))
    replace A1 := Lib.hid (row_call hb2 (row_alloc A1.out _))
    have K1 := Lib.hid (row_call hb2 (heap_alloc_new _ _))
    clear hb2
    obtain ⟨A1_0, A1_1, A1_2⟩ := qw3 A1
    obtain ⟨K1_0, K1_1, K1_2, K1_3⟩ := qw4 K1
    have zA1 := lt_of_heap A1.out
    have zK1 := lt_of_heap K1.out
    go_simp
    go_wp2_with fail
    refine (H3.out _).mono ?_
    rintro e V3 ⟨rfl, hb3⟩
    clear A1_0 A1_1 A1_2 zA1 K1_0 K1_1 K1_2 K1_3 zK1
    have B3 : Hid (Below w.heap.size w V3) := nbx B2 hb3
    replace A1 := rcx hb3 A1
    replace K1 := rcx hb3 K1
    clear hb3
    obtain ⟨A1_0, A1_1, A1_2⟩ := qw3 A1
    obtain ⟨K1_0, K1_1, K1_2, K1_3⟩ := qw4 K1
    have zA1 := lt_of_heap A1.out
    have zK1 := lt_of_heap K1.out
    go_simp
    go_wp2
    go_ret2
    exact ⟨by rw [hv.out, he.out]; rfl, B3.out⟩
  · cases u
    · clear H5 H6 H7 H8
      go_enter Tryz.func55, Tryz.ntmps55
      go_wp2_with fail
      
      refine (H1.out _).mono ?_
      rintro e V1 ⟨rfl, hb1⟩
      have B1 := nby hb1
      have A1 := Lib.hid (row_call hb1 (heap_alloc_new _ _))
      clear hb1
      obtain ⟨A1_0, A1_1, A1_2⟩ := qw3 A1
      have zA1 := lt_of_heap A1.out
      go_simp
      have hg0 := heap_alloc_new V1 (.cells #[.bool false, .bool false, .nilFunc, .nilFunc] 121)
      go_wp2_with (refine wpList_store_row (by rfl) 121 _ _ (by rfl) V1.heap.size #[.bool true, .bool true, .func (.func 103) #[] #[], .func (.func 106) #[] #[]] (by rfl) (by rfl) 121 _ hg0 (by kernel_rfl) (by rfl) (by simp [Value.oneCell']) ?_; rw [World.setRow_alloc_new]; clear hg0)
      refine (H2.out _ (by first | exact md_keep hM ((B1.out).alloc (B1.out.size) _))).mono ?_
      rintro e V2 ⟨rfl, hb2⟩
      clear A1_0 A1_1 A1_2 zA1
      have nA1K1 := Lib.hid (lt_of_heap A1.out)
      have B2 := Lib.hid (((B1.out).alloc (B1.out.size) _).trans (hb2.mono (by have := B1.out.size; first | assumption | (simp <;> omega) | (simp; done))))
      replace A1 := Lib.hid (row_call hb2 (row_alloc A1.out _))
      have K1 := Lib.hid (row_call hb2 (heap_alloc_new _ _))
      clear hb2
      obtain ⟨A1_0, A1_1, A1_2⟩ := qw3 A1
      obtain ⟨K1_0, K1_1, K1_2, K1_3⟩ := qw4 K1
      have zA1 := lt_of_heap A1.out
      have zK1 := lt_of_heap K1.out
      go_simp
      go_wp2_with fail
      refine (H3.out _).mono ?_
      rintro e V3 ⟨rfl, hb3⟩
      clear A1_0 A1_1 A1_2 zA1 K1_0 K1_1 K1_2 K1_3 zK1
      have B3 : Hid (Below w.heap.size w V3) := nbx B2 hb3
      replace A1 := rcx hb3 A1
      replace K1 := rcx hb3 K1
      clear hb3
      obtain ⟨A1_0, A1_1, A1_2⟩ := qw3 A1
      obtain ⟨K1_0, K1_1, K1_2, K1_3⟩ := qw4 K1
      have zA1 := lt_of_heap A1.out
      have zK1 := lt_of_heap K1.out
      go_simp
      go_wp2_with fail
      refine (H4.out _).mono ?_
      rintro e V4 ⟨rfl, hb4⟩
      clear A1_0 A1_1 A1_2 zA1 K1_0 K1_1 K1_2 K1_3 zK1
      have B4 : Hid (Below w.heap.size w V4) := nbx B3 hb4
      replace A1 := rcx hb4 A1
      replace K1 := rcx hb4 K1
      clear hb4
      obtain ⟨A1_0, A1_1, A1_2⟩ := qw3 A1
      obtain ⟨K1_0, K1_1, K1_2, K1_3⟩ := qw4 K1
      have zA1 := lt_of_heap A1.out
      have zK1 := lt_of_heap K1.out
      go_simp
      go_wp2
      go_ret2
      exact ⟨by rw [hv.out, he.out]; rfl, B4.out⟩
    · cases q
      · cases x
        · clear H7 H8
          go_enter Tryz.func55, Tryz.ntmps55
          go_wp2_with fail
          
          refine (H1.out _).mono ?_
          rintro e V1 ⟨rfl, hb1⟩
          have B1 := nby hb1
          have A1 := Lib.hid (row_call hb1 (heap_alloc_new _ _))
          clear hb1
          obtain ⟨A1_0, A1_1, A1_2⟩ := qw3 A1
          have zA1 := lt_of_heap A1.out
          go_simp
          have hg0 := heap_alloc_new V1 (.cells #[.bool false, .bool false, .nilFunc, .nilFunc] 121)
          go_wp2_with (refine wpList_store_row (by rfl) 121 _ _ (by rfl) V1.heap.size #[.bool true, .bool true, .func (.func 103) #[] #[], .func (.func 106) #[] #[]] (by rfl) (by rfl) 121 _ hg0 (by kernel_rfl) (by rfl) (by simp [Value.oneCell']) ?_; rw [World.setRow_alloc_new]; clear hg0)
          refine (H2.out _ (by first | exact md_keep hM ((B1.out).alloc (B1.out.size) _))).mono ?_
          rintro e V2 ⟨rfl, hb2⟩
          clear A1_0 A1_1 A1_2 zA1
          have nA1K1 := Lib.hid (lt_of_heap A1.out)
          have B2 := Lib.hid (((B1.out).alloc (B1.out.size) _).trans (hb2.mono (by have := B1.out.size; first | assumption | (simp <;> omega) | (simp; done))))
          replace A1 := Lib.hid (row_call hb2 (row_alloc A1.out _))
          have K1 := Lib.hid (row_call hb2 (heap_alloc_new _ _))
          clear hb2
          obtain ⟨A1_0, A1_1, A1_2⟩ := qw3 A1
          obtain ⟨K1_0, K1_1, K1_2, K1_3⟩ := qw4 K1
          have zA1 := lt_of_heap A1.out
          have zK1 := lt_of_heap K1.out
          go_simp
          go_wp2_with fail
          refine (H3.out _).mono ?_
          rintro e V3 ⟨rfl, hb3⟩
          clear A1_0 A1_1 A1_2 zA1 K1_0 K1_1 K1_2 K1_3 zK1
          have B3 : Hid (Below w.heap.size w V3) := nbx B2 hb3
          replace A1 := rcx hb3 A1
          replace K1 := rcx hb3 K1
          clear hb3
          obtain ⟨A1_0, A1_1, A1_2⟩ := qw3 A1
          obtain ⟨K1_0, K1_1, K1_2, K1_3⟩ := qw4 K1
          have zA1 := lt_of_heap A1.out
          have zK1 := lt_of_heap K1.out
          go_simp
          go_wp2_with fail
          refine (H4.out _).mono ?_
          rintro e V4 ⟨rfl, hb4⟩
          clear A1_0 A1_1 A1_2 zA1 K1_0 K1_1 K1_2 K1_3 zK1
          have B4 : Hid (Below w.heap.size w V4) := nbx B3 hb4
          replace A1 := rcx hb4 A1
          replace K1 := rcx hb4 K1
          clear hb4
          obtain ⟨A1_0, A1_1, A1_2⟩ := qw3 A1
          obtain ⟨K1_0, K1_1, K1_2, K1_3⟩ := qw4 K1
          have zA1 := lt_of_heap A1.out
          have zK1 := lt_of_heap K1.out
          go_simp
          go_wp2_with fail
          refine (H5.out _).mono ?_
          rintro e V5 ⟨rfl, hb5⟩
          clear A1_0 A1_1 A1_2 zA1 K1_0 K1_1 K1_2 K1_3 zK1
          have B5 : Hid (Below w.heap.size w V5) := nbx B4 hb5
          replace A1 := rcx hb5 A1
          replace K1 := rcx hb5 K1
          clear hb5
          obtain ⟨A1_0, A1_1, A1_2⟩ := qw3 A1
          obtain ⟨K1_0, K1_1, K1_2, K1_3⟩ := qw4 K1
          have zA1 := lt_of_heap A1.out
          have zK1 := lt_of_heap K1.out
          go_simp
          go_wp2_with fail
          refine (H6.out _).mono ?_
          rintro e V6 ⟨rfl, hb6⟩
          clear A1_0 A1_1 A1_2 zA1 K1_0 K1_1 K1_2 K1_3 zK1
          have B6 : Hid (Below w.heap.size w V6) := nbx B5 hb6
          replace A1 := rcx hb6 A1
          replace K1 := rcx hb6 K1
          clear hb6
          obtain ⟨A1_0, A1_1, A1_2⟩ := qw3 A1
          obtain ⟨K1_0, K1_1, K1_2, K1_3⟩ := qw4 K1
          have zA1 := lt_of_heap A1.out
          have zK1 := lt_of_heap K1.out
          go_simp
          go_wp2
          go_ret2
          exact ⟨by rw [hv.out, he.out]; rfl, B6.out⟩
        · replace H7 := H7 rfl rfl rfl
          replace H8 := H8 rfl rfl rfl
          go_enter Tryz.func55, Tryz.ntmps55
          go_wp2_with fail
          
          refine (H1.out _).mono ?_
          rintro e V1 ⟨rfl, hb1⟩
          have B1 := nby hb1
          have A1 := Lib.hid (row_call hb1 (heap_alloc_new _ _))
          clear hb1
          obtain ⟨A1_0, A1_1, A1_2⟩ := qw3 A1
          have zA1 := lt_of_heap A1.out
          go_simp
          have hg0 := heap_alloc_new V1 (.cells #[.bool false, .bool false, .nilFunc, .nilFunc] 121)
          go_wp2_with (refine wpList_store_row (by rfl) 121 _ _ (by rfl) V1.heap.size #[.bool true, .bool true, .func (.func 103) #[] #[], .func (.func 106) #[] #[]] (by rfl) (by rfl) 121 _ hg0 (by kernel_rfl) (by rfl) (by simp [Value.oneCell']) ?_; rw [World.setRow_alloc_new]; clear hg0)
          refine (H2.out _ (by first | exact md_keep hM ((B1.out).alloc (B1.out.size) _))).mono ?_
          rintro e V2 ⟨rfl, hb2⟩
          clear A1_0 A1_1 A1_2 zA1
          have nA1K1 := Lib.hid (lt_of_heap A1.out)
          have B2 := Lib.hid (((B1.out).alloc (B1.out.size) _).trans (hb2.mono (by have := B1.out.size; first | assumption | (simp <;> omega) | (simp; done))))
          replace A1 := Lib.hid (row_call hb2 (row_alloc A1.out _))
          have K1 := Lib.hid (row_call hb2 (heap_alloc_new _ _))
          clear hb2
          obtain ⟨A1_0, A1_1, A1_2⟩ := qw3 A1
          obtain ⟨K1_0, K1_1, K1_2, K1_3⟩ := qw4 K1
          have zA1 := lt_of_heap A1.out
          have zK1 := lt_of_heap K1.out
          go_simp
          go_wp2_with fail
          refine (H3.out _).mono ?_
          rintro e V3 ⟨rfl, hb3⟩
          clear A1_0 A1_1 A1_2 zA1 K1_0 K1_1 K1_2 K1_3 zK1
          have B3 : Hid (Below w.heap.size w V3) := nbx B2 hb3
          replace A1 := rcx hb3 A1
          replace K1 := rcx hb3 K1
          clear hb3
          obtain ⟨A1_0, A1_1, A1_2⟩ := qw3 A1
          obtain ⟨K1_0, K1_1, K1_2, K1_3⟩ := qw4 K1
          have zA1 := lt_of_heap A1.out
          have zK1 := lt_of_heap K1.out
          go_simp
          go_wp2_with fail
          refine (H4.out _).mono ?_
          rintro e V4 ⟨rfl, hb4⟩
          clear A1_0 A1_1 A1_2 zA1 K1_0 K1_1 K1_2 K1_3 zK1
          have B4 : Hid (Below w.heap.size w V4) := nbx B3 hb4
          replace A1 := rcx hb4 A1
          replace K1 := rcx hb4 K1
          clear hb4
          obtain ⟨A1_0, A1_1, A1_2⟩ := qw3 A1
          obtain ⟨K1_0, K1_1, K1_2, K1_3⟩ := qw4 K1
          have zA1 := lt_of_heap A1.out
          have zK1 := lt_of_heap K1.out
          go_simp
          go_wp2_with fail
          refine (H5.out _).mono ?_
          rintro e V5 ⟨rfl, hb5⟩
          clear A1_0 A1_1 A1_2 zA1 K1_0 K1_1 K1_2 K1_3 zK1
          have B5 : Hid (Below w.heap.size w V5) := nbx B4 hb5
          replace A1 := rcx hb5 A1
          replace K1 := rcx hb5 K1
          clear hb5
          obtain ⟨A1_0, A1_1, A1_2⟩ := qw3 A1
          obtain ⟨K1_0, K1_1, K1_2, K1_3⟩ := qw4 K1
          have zA1 := lt_of_heap A1.out
          have zK1 := lt_of_heap K1.out
          go_simp
          go_wp2_with fail
          refine (H6.out _).mono ?_
          rintro e V6 ⟨rfl, hb6⟩
          clear A1_0 A1_1 A1_2 zA1 K1_0 K1_1 K1_2 K1_3 zK1
          have B6 : Hid (Below w.heap.size w V6) := nbx B5 hb6
          replace A1 := rcx hb6 A1
          replace K1 := rcx hb6 K1
          clear hb6
          obtain ⟨A1_0, A1_1, A1_2⟩ := qw3 A1
          obtain ⟨K1_0, K1_1, K1_2, K1_3⟩ := qw4 K1
          have zA1 := lt_of_heap A1.out
          have zK1 := lt_of_heap K1.out
          go_simp
          go_wp2_with fail
          clear A1_0 A1_1 A1_2 zA1 K1_0 K1_1 K1_2 K1_3 zK1
          obtain ⟨W0, hW0⟩ : ∃ W0, W0 = V6 := ⟨_, rfl⟩
          replace A1 := Lib.hid (row_by hW0 A1.out)
          replace K1 := Lib.hid (row_by hW0 K1.out)
          have HB0 := Lib.hid (below_by hW0 (B6.out))
          have HW0 := Lib.hid hW0
          clear hW0
          obtain ⟨A1_0, A1_1, A1_2⟩ := qw3 A1
          have zA1 := lt_of_heap A1.out
          obtain ⟨K1_0, K1_1, K1_2, K1_3⟩ := qw4 K1
          have zK1 := lt_of_heap K1.out
          try rw [← HW0.out]
          go_cut [6, 7] (fun s6 s7 wx => s6 = .int .i64 R ∧ s7 = .int .i64 0 ∧ Below W0.heap.size W0 wx)
          case first =>
            go_region_held3 (fun w' => Below W0.heap.size W0 w' ∧ w'.cell? ⟨w.heap.size, 0, none⟩ = some (.int .i64 3) ∧ w'.cell? ⟨w.heap.size, 1, none⟩ = some (.int .i64 n) ∧ w'.cell? ⟨w.heap.size, 2, none⟩ = some (.int .i64 wd) ∧ w'.cell? ⟨V1.heap.size, 0, none⟩ = some (.bool true) ∧ w'.cell? ⟨V1.heap.size, 1, none⟩ = some (.bool true) ∧ w'.cell? ⟨V1.heap.size, 2, none⟩ = some (.func (.func 103) #[] #[]) ∧ w'.cell? ⟨V1.heap.size, 3, none⟩ = some (.func (.func 106) #[] #[]))
    (first
      | ((try go_split_ands); refine ⟨(Below.refl _ _).drew, ?_, ?_, ?_, ?_, ?_, ?_, ?_⟩ <;> first | assumption | (rw [World.cell?_drew]; assumption))
      | ((try go_split_ands); refine ⟨keepS (W0 := W0) ?_ hb1, cellS (W0 := W0) ?_ hb1 ?_ ?_, cellS (W0 := W0) ?_ hb1 ?_ ?_, cellS (W0 := W0) ?_ hb1 ?_ ?_, cellS (W0 := W0) ?_ hb1 ?_ ?_, cellS (W0 := W0) ?_ hb1 ?_ ?_, cellS (W0 := W0) ?_ hb1 ?_ ?_, cellS (W0 := W0) ?_ hb1 ?_ ?_⟩ <;> first | assumption | omega)
      | ((try go_split_ands); refine ⟨keepA (W0 := W0) ?_ _, cellA (W0 := W0) ?_ _ ?_ ?_, cellA (W0 := W0) ?_ _ ?_ ?_, cellA (W0 := W0) ?_ _ ?_ ?_, cellA (W0 := W0) ?_ _ ?_ ?_, cellA (W0 := W0) ?_ _ ?_ ?_, cellA (W0 := W0) ?_ _ ?_ ?_, cellA (W0 := W0) ?_ _ ?_ ?_⟩ <;> first | assumption | omega)
      | ((try go_split_ands); refine ⟨keepAd (W0 := W0) ?_ _, cellAd (W0 := W0) ?_ _ ?_ ?_, cellAd (W0 := W0) ?_ _ ?_ ?_, cellAd (W0 := W0) ?_ _ ?_ ?_, cellAd (W0 := W0) ?_ _ ?_ ?_, cellAd (W0 := W0) ?_ _ ?_ ?_, cellAd (W0 := W0) ?_ _ ?_ ?_, cellAd (W0 := W0) ?_ _ ?_ ?_⟩ <;> first | assumption | omega | exact Below.refl _ _)
      | ((try go_split_ands); (with_reducible refine ⟨keep3 (W0 := W0) ?_ ?_ _ _ _, cell3 (W0 := W0) ?_ _ _ _ ?_ ?_, cell3 (W0 := W0) ?_ _ _ _ ?_ ?_, cell3 (W0 := W0) ?_ _ _ _ ?_ ?_, cell3 (W0 := W0) ?_ _ _ _ ?_ ?_, cell3 (W0 := W0) ?_ _ _ _ ?_ ?_, cell3 (W0 := W0) ?_ _ _ _ ?_ ?_, cell3 (W0 := W0) ?_ _ _ _ ?_ ?_⟩) <;> first | assumption | omega | exact Nat.le_refl _)
      | ((try go_split_ands); refine ⟨keep2 (W0 := W0) ?_ ?_ _ _, cell2 (W0 := W0) ?_ _ _ ?_ ?_, cell2 (W0 := W0) ?_ _ _ ?_ ?_, cell2 (W0 := W0) ?_ _ _ ?_ ?_, cell2 (W0 := W0) ?_ _ _ ?_ ?_, cell2 (W0 := W0) ?_ _ _ ?_ ?_, cell2 (W0 := W0) ?_ _ _ ?_ ?_, cell2 (W0 := W0) ?_ _ _ ?_ ?_⟩ <;> first | assumption | omega | exact Nat.le_refl _)
      | ((try go_split_ands); refine ⟨keepZ (W0 := W0) ?_ ?_ _, cellZ (W0 := W0) ?_ _ ?_ ?_, cellZ (W0 := W0) ?_ _ ?_ ?_, cellZ (W0 := W0) ?_ _ ?_ ?_, cellZ (W0 := W0) ?_ _ ?_ ?_, cellZ (W0 := W0) ?_ _ ?_ ?_, cellZ (W0 := W0) ?_ _ ?_ ?_, cellZ (W0 := W0) ?_ _ ?_ ?_⟩ <;> first | assumption | omega | exact Nat.le_refl _ | exact ⟨_, by assumption⟩))
    (first | (go_at_call 78; (with_reducible refine (H7.out _ ?_).mono ?_); (focus (refine md_keep (Lib.hid (md_keep hM HB0.out)) ?_; first | assumption | (with_reducible exact (Below.refl _ _).drew) | (go_split_ands; done) | ((try go_split_ands); assumption))); rintro e w1 ⟨rfl, hb1⟩; (try go_split_ands); have hge : W0.heap.size ≤ w1.heap.size := (by first | (refine (keepS (W0 := W0) ?_ hb1).size; assumption) | exact (hb1.size : W0.heap.size ≤ w1.heap.size)); (try have hrow := row_call hb1 hrow); (try have hrow := row_new hb1); (try have hrow := row_newd hb1); have hl1 := lt_below hb1; obtain ⟨hc1, hf1⟩ := bcell hb1; (try (have hrc := row_cellA hrow; clear hc1 hf1)); (try have hrf := row_frozA hrow)) | (go_at_call 106; (with_reducible refine (H8.out _).mono ?_); rintro e w1 ⟨rfl, hb1⟩; (try go_split_ands); have hge : W0.heap.size ≤ w1.heap.size := (by first | (refine (keepS (W0 := W0) ?_ hb1).size; assumption) | exact (hb1.size : W0.heap.size ≤ w1.heap.size)); (try have hrow := row_call hb1 hrow); (try have hrow := row_new hb1); (try have hrow := row_newd hb1); have hl1 := lt_below hb1; obtain ⟨hc1, hf1⟩ := bcell hb1; (try (have hrc := row_cellA hrow; clear hc1 hf1)); (try have hrf := row_frozA hrow)) | (go_at_call 78; refine (H7.out _ (by first | exact md_keep (Lib.hid (md_keep hM HB0.out)) (by assumption) | exact md_keep (Lib.hid (md_keep hM HB0.out)) (by (try go_split_ands); assumption) | exact md_keep (Lib.hid (md_keep hM HB0.out)) (Below.refl _ _).drew)).mono ?_; rintro e w1 ⟨rfl, hb1⟩; (try go_split_ands); have hge : W0.heap.size ≤ w1.heap.size := (by first | (refine (keepS (W0 := W0) ?_ hb1).size; assumption) | exact (hb1.size : W0.heap.size ≤ w1.heap.size)); (try have hrow := row_call hb1 hrow); (try have hrow := row_new hb1); (try have hrow := row_newd hb1); have hl1 := lt_below hb1; obtain ⟨hc1, hf1⟩ := bcell hb1; (try (have hrc := row_cellA hrow; clear hc1 hf1)); (try have hrf := row_frozA hrow)))
            all_goals (try go_split_ands)
            all_goals (go_wp2_with fail; go_meet; refine ⟨rfl, rfl, ?_⟩)
            all_goals first | (with_reducible assumption) | (with_reducible exact heap_alloc_new _ _) | (with_reducible exact row_set3 (by assumption) _ _ _) | assumption | exact heap_alloc_new _ _ | exact row_set (by assumption) _ _
          case rest =>
            obtain ⟨rfl, rfl, hB⟩ := hcut
            obtain ⟨V7, rfl⟩ : ∃ V, V = wc := ⟨_, rfl⟩
            clear A1_0 A1_1 A1_2 zA1 K1_0 K1_1 K1_2 K1_3 zK1
            replace A1 := Lib.hid (row_call hB A1.out)
            replace K1 := Lib.hid (row_call hB K1.out)
            have B7 := Lib.hid (HB0.out.trans (hB.mono HB0.out.size))
            clear hB
            obtain ⟨A1_0, A1_1, A1_2⟩ := qw3 A1
            have zA1 := lt_of_heap A1.out
            obtain ⟨K1_0, K1_1, K1_2, K1_3⟩ := qw4 K1
            have zK1 := lt_of_heap K1.out
            go_wp2
            go_ret2
            exact ⟨by rw [hv.out, he.out]; rfl, B7.out⟩
      · clear H6 H7 H8
        go_enter Tryz.func55, Tryz.ntmps55
        go_wp2_with fail
        
        refine (H1.out _).mono ?_
        rintro e V1 ⟨rfl, hb1⟩
        have B1 := nby hb1
        have A1 := Lib.hid (row_call hb1 (heap_alloc_new _ _))
        clear hb1
        obtain ⟨A1_0, A1_1, A1_2⟩ := qw3 A1
        have zA1 := lt_of_heap A1.out
        go_simp
        have hg0 := heap_alloc_new V1 (.cells #[.bool false, .bool false, .nilFunc, .nilFunc] 121)
        go_wp2_with (refine wpList_store_row (by rfl) 121 _ _ (by rfl) V1.heap.size #[.bool true, .bool true, .func (.func 103) #[] #[], .func (.func 106) #[] #[]] (by rfl) (by rfl) 121 _ hg0 (by kernel_rfl) (by rfl) (by simp [Value.oneCell']) ?_; rw [World.setRow_alloc_new]; clear hg0)
        refine (H2.out _ (by first | exact md_keep hM ((B1.out).alloc (B1.out.size) _))).mono ?_
        rintro e V2 ⟨rfl, hb2⟩
        clear A1_0 A1_1 A1_2 zA1
        have nA1K1 := Lib.hid (lt_of_heap A1.out)
        have B2 := Lib.hid (((B1.out).alloc (B1.out.size) _).trans (hb2.mono (by have := B1.out.size; first | assumption | (simp <;> omega) | (simp; done))))
        replace A1 := Lib.hid (row_call hb2 (row_alloc A1.out _))
        have K1 := Lib.hid (row_call hb2 (heap_alloc_new _ _))
        clear hb2
        obtain ⟨A1_0, A1_1, A1_2⟩ := qw3 A1
        obtain ⟨K1_0, K1_1, K1_2, K1_3⟩ := qw4 K1
        have zA1 := lt_of_heap A1.out
        have zK1 := lt_of_heap K1.out
        go_simp
        go_wp2_with fail
        refine (H3.out _).mono ?_
        rintro e V3 ⟨rfl, hb3⟩
        clear A1_0 A1_1 A1_2 zA1 K1_0 K1_1 K1_2 K1_3 zK1
        have B3 : Hid (Below w.heap.size w V3) := nbx B2 hb3
        replace A1 := rcx hb3 A1
        replace K1 := rcx hb3 K1
        clear hb3
        obtain ⟨A1_0, A1_1, A1_2⟩ := qw3 A1
        obtain ⟨K1_0, K1_1, K1_2, K1_3⟩ := qw4 K1
        have zA1 := lt_of_heap A1.out
        have zK1 := lt_of_heap K1.out
        go_simp
        go_wp2_with fail
        refine (H4.out _).mono ?_
        rintro e V4 ⟨rfl, hb4⟩
        clear A1_0 A1_1 A1_2 zA1 K1_0 K1_1 K1_2 K1_3 zK1
        have B4 : Hid (Below w.heap.size w V4) := nbx B3 hb4
        replace A1 := rcx hb4 A1
        replace K1 := rcx hb4 K1
        clear hb4
        obtain ⟨A1_0, A1_1, A1_2⟩ := qw3 A1
        obtain ⟨K1_0, K1_1, K1_2, K1_3⟩ := qw4 K1
        have zA1 := lt_of_heap A1.out
        have zK1 := lt_of_heap K1.out
        go_simp
        go_wp2_with fail
        refine (H5.out _).mono ?_
        rintro e V5 ⟨rfl, hb5⟩
        clear A1_0 A1_1 A1_2 zA1 K1_0 K1_1 K1_2 K1_3 zK1
        have B5 : Hid (Below w.heap.size w V5) := nbx B4 hb5
        replace A1 := rcx hb5 A1
        replace K1 := rcx hb5 K1
        clear hb5
        obtain ⟨A1_0, A1_1, A1_2⟩ := qw3 A1
        obtain ⟨K1_0, K1_1, K1_2, K1_3⟩ := qw4 K1
        have zA1 := lt_of_heap A1.out
        have zK1 := lt_of_heap K1.out
        go_simp
        go_wp2
        go_ret2
        exact ⟨by rw [hv.out, he.out]; rfl, B5.out⟩
theorem yr_in (K n wd y m M : Int) (t u q x : Bool) (ht : t = mayD K n wd) (hu : u = wiB m 1 12) (hq : q = (decide (K = 0) && decide (mdI y m < n))) (hx : x = wiB y (-9999) 10000) :
    yrV K n wd y m = (if t = true then (if u = true then (if q = true then 0 else if x = true then yrN K n wd y m else 0) else 0) else 0) ∧ yrE K n wd y m = (if t = true then (if u = true then (if q = true then 7 else if x = true then 0 else 8) else 5) else 5) := by
  subst ht
  by_cases hm : mayD K n wd = true
  · by_cases hu2 : m < 1 ∨ 12 < m
    · obtain ⟨a, b⟩ := yr_bad (k := K) (n := n) (w := wd) (y := y) (m := m) (Or.inr hu2)
      rw [wiB_no hu2] at hu
      rw [a, b, hu, if_pos hm, if_pos hm]; exact ⟨rfl, rfl⟩
    · rw [wiB_yes (by omega) (by omega)] at hu
      have hb : ¬ (mayD K n wd = false ∨ m < 1 ∨ 12 < m) := by rw [hm]; simp; omega
      rw [hu, if_pos hm, if_pos hm]
      by_cases h2 : K = 0 ∧ mdI y m < n
      · obtain ⟨a, b⟩ := yr_day (y := y) hb h2
        rw [decide_eq_true h2.1, decide_eq_true h2.2] at hq
        rw [a, b, hq]; exact ⟨rfl, rfl⟩
      · have hq' : q = false := by rw [hq, Bool.and_eq_false_iff]; by_cases hk : K = 0
                                   · right; exact decide_eq_false fun h => h2 ⟨hk, h⟩
                                   · left; exact decide_eq_false hk
        by_cases h3 : y < -9999 ∨ 10000 < y
        · obtain ⟨a, b⟩ := yr_range (y := y) hb h2 h3
          rw [wiB_no h3] at hx
          rw [a, b, hq', hx]; exact ⟨rfl, rfl⟩
        · obtain ⟨a, b⟩ := yr_ok (y := y) hb h2 h3
          rw [wiB_yes (by omega) (by omega)] at hx
          rw [a, b, hq', hx]; exact ⟨rfl, rfl⟩
  · have hm' : mayD K n wd = false := by simpa using hm
    obtain ⟨a, b⟩ := yr_bad (k := K) (n := n) (w := wd) (y := y) (m := m) (Or.inl hm')
    rw [a, b, if_neg hm, if_neg hm]; exact ⟨rfl, rfl⟩
theorem wiB_in {n lo hi : Int} (h : wiB n lo hi = true) : lo ≤ n ∧ n ≤ hi := by unfold wiB at h; simp at h; exact h
theorem pYrDay_any (k n wd y m : Int) (w : World) (hM : MD w) : Calls Tryz.prog 55 #[.agg #[.int .i64 k, .int .i64 n, .int .i64 wd], .int .i64 y, .int .i64 m] w fun e w' => e = .returned (.tuple #[.int .i64 (yrV k n wd y m), .int .i64 (yrE k n wd y m)]) ∧ Below w.heap.size w w' := by
  have HM : Hid (∀ w, MD w → Calls Tryz.prog 75 #[.int .i64 y, .int .i64 m] w fun e w' => e = .returned (.int .i64 (mdI y m)) ∧ Below w.heap.size w w') := Lib.hid (fun w h => grow_of (pMonthDays_p y m w h))
  have HU := Lib.hid (fun w => grow_of (yWithin_p m 1 12 w))
  have HX := Lib.hid (fun w => grow_of (yWithin_p y (-9999) 10000 w))
  have HF := fun (hu : wiB m 1 12 = true) (hx : wiB y (-9999) 10000 = true) => Lib.hid (fun w h => yFirst_any y m (wiB_in hx) (wiB_in hu) w h)
  have bF := fun (hu : wiB m 1 12 = true) (hx : wiB y (-9999) 10000 = true) => dn_bd (y := y) (m := m) (d := 1) (by have := wiB_in hx; omega) (wiB_in hu) (by decide)
  have bM := mdI_le y m
  by_cases h0 : k = 0
  · subst h0
    obtain ⟨e1, e2⟩ := yr_in 0 n wd y m (mdI y m) _ _ _ _ rfl rfl rfl rfl
    refine pYrW_0 n wd y m (dnI y m 1) (mdI y m) _ _ _ _ _ _ _ e1 e2 HM ?_ HU ?_ HX (fun _ hu hx => HF hu hx) (fun ht hu hx => ?_) w hM
    · rw [may_has (Or.inl ⟨rfl, rfl, rfl⟩)]; exact Lib.hid (fun w => yTells_any _ _ _ _ _ _ _ w)
    · exact Lib.hid (fun w => by rw [show (decide ((0 : Int) = 0) && decide (mdI y m < n)) = decide (mdI y m < n) by simp]; exact yBeyond_any _ _ _ _ w)
    · have hp := may_parts ht
      have e : yrN 0 n wd y m = dnI y m 1 + n - 1 := by unfold yrN; rfl
      rw [e]
      exact Lib.hid (fun w => yDated_any 0 n wd _ _ (bF hu hx) (by omega) w)
  by_cases h1 : k = 1
  · subst h1
    obtain ⟨e1, e2⟩ := yr_in 1 n wd y m (mdI y m) _ _ _ _ rfl rfl rfl rfl
    refine pYrW_1 n wd y m (dnI y m 1) (mdI y m) _ _ _ _ _ _ _ e1 e2 HM ?_ HU ?_ HX (fun _ hu hx => HF hu hx) (fun ht hu hx => ?_) w hM
    · rw [may_has (Or.inr (Or.inl ⟨rfl, rfl, rfl⟩))]; exact Lib.hid (fun w => yTells_any _ _ _ _ _ _ _ w)
    · exact Lib.hid (fun w => by rw [show (decide ((1 : Int) = 0) && decide (mdI y m < n)) = false by simp]; exact yNever_any _ _ _ _ w)
    · have hp := may_parts ht
      have e : yrN 1 n wd y m = downTo (dnI y m 1 + mdI y m - 1) wd := by unfold yrN; rfl
      rw [e]
      exact Lib.hid (fun w => yLast_any 1 n wd _ _ (bF hu hx) bM (by omega) w)
  by_cases h2 : k = 2
  · subst h2
    obtain ⟨e1, e2⟩ := yr_in 2 n wd y m (mdI y m) _ _ _ _ rfl rfl rfl rfl
    refine pYrW_2 n wd y m (dnI y m 1) (mdI y m) _ _ _ _ _ _ _ e1 e2 HM ?_ HU ?_ HX (fun _ hu hx => HF hu hx) (fun ht hu hx => ?_) w hM
    · rw [may_has (Or.inr (Or.inr (Or.inl ⟨rfl, rfl, rfl⟩)))]; exact Lib.hid (fun w => yTells_any _ _ _ _ _ _ _ w)
    · exact Lib.hid (fun w => by rw [show (decide ((2 : Int) = 0) && decide (mdI y m < n)) = false by simp]; exact yNever_any _ _ _ _ w)
    · have hp := may_parts ht
      have e : yrN 2 n wd y m = upTo (dnI y m 1 + n - 1) wd := by unfold yrN; rfl
      rw [e]
      exact Lib.hid (fun w => yFrom_any 2 n wd _ _ (bF hu hx) (by omega) (by omega) w)
  by_cases h3 : k = 3
  · subst h3
    obtain ⟨e1, e2⟩ := yr_in 3 n wd y m (mdI y m) _ _ _ _ rfl rfl rfl rfl
    refine pYrW_3 n wd y m (dnI y m 1) (mdI y m) _ _ _ _ _ _ _ e1 e2 HM ?_ HU ?_ HX (fun _ hu hx => HF hu hx) (fun ht hu hx => ?_) w hM
    · rw [may_has (Or.inr (Or.inr (Or.inr ⟨rfl, rfl, rfl⟩)))]; exact Lib.hid (fun w => yTells_any _ _ _ _ _ _ _ w)
    · exact Lib.hid (fun w => by rw [show (decide ((3 : Int) = 0) && decide (mdI y m < n)) = false by simp]; exact yNever_any _ _ _ _ w)
    · have hp := may_parts ht
      have e : yrN 3 n wd y m = downTo (dnI y m 1 + n - 1) wd := by unfold yrN; rfl
      rw [e]
      exact Lib.hid (fun w => yBefore_any 3 n wd _ _ (bF hu hx) (by omega) (by omega) w)
  · exact pYr_no k n wd y m h0 h1 h2 h3 w hM
end Go.Proofs.YtafecnlaodgmkaaGreatDoor
