/- Several texts in one: CtP. -/
import Derived.Test.YtaoljjhhbmblhaaDoorZCt3
namespace Go.Proofs.YtaoljjhhbmblhaaDoor
set_option linter.unusedVariables false
set_option linter.unusedSimpArgs false
open Go.ChangeShapes Go.WideShapes Go.ChangeAt Go.RowKit
theorem ptAdd_at {y m d h i s n c k r0 r1 r2 r3 r4 r5 r6 E : Int} (hc : AtIs y m d h i s n c k r0 r1 r2 r3 r4 r5 r6 E) (w : World) (hM : TB w) :
    Calls Tryd.prog 14 #[.agg #[.int .i64 y, .int .i64 m, .int .i64 d, .int .i64 h, .int .i64 i, .int .i64 s, .int .i64 n], .agg #[.int .i64 c, .int .i64 k]] w fun e w' => e = .returned (.tuple #[.agg #[.int .i64 r0, .int .i64 r1, .int .i64 r2, .int .i64 r3, .int .i64 r4, .int .i64 r5, .int .i64 r6], .int .i64 E]) ∧ Below w.heap.size w w' := by
  by_cases hf : fsI (ckT y m d h i s n) (ckD c k) = 0
  · obtain ⟨ct, cd⟩ := fsI_none hf
    obtain ⟨kk, kc⟩ := ckT_both ct
    have X2 := fun w (hM : TB w) => pkAdd_any h i s n c k (by rw [kk, cd]; unfold fsI; rfl) w hM.sz
    obtain ⟨k1, k2, d1, d2⟩ := ckD_bd cd
    obtain ⟨ok, _, hy, hm, hd⟩ := of_ckT ct
    have b := dn_bd (y := y) (m := m) (d := d) (by omega) hm hd
    have b2 := scK_bd ok
    have n1 : 0 ≤ n ∧ n < 1000000000 := by unfold okK at ok; omega
    have hA : nuT y m d h i s + c + (n + k) / 1000000000 = dnI y m d * 86400 + atK h i s n c k := by unfold nuT atK; omega
    have ba : -2000000000000 ≤ atK h i s n c k ∧ atK h i s n c k ≤ 2000000000000 := by unfold atK; omega
    obtain ⟨a1, a2, a3⟩ := ad_sum (s := nuT y m d h i s) (n := n) (d := c) (m := k) (wmB_true k1 k2) (isCiv_back ct).2
    have e1 : (nanos (nuT y m d h i s) n + nanos c k) / 1000000000 = dnI y m d * 86400 + atK h i s n c k := by rw [← hA]; unfold nanos; omega
    have e2 : (nanos (nuT y m d h i s) n + nanos c k) % 1000000000 = (n + k) % 1000000000 := by unfold nanos; omega
    have hat : atE y m d h i s n c k = adE (nuT y m d h i s) n c k := if_neg (fun q => q hf)
    have hq : (dnI y m d * 86400 + atK h i s n c k) / 86400 = dnI y m d + atK h i s n c k / 86400 := by omega
    have hr : (dnI y m d * 86400 + atK h i s n c k) % 86400 = atK h i s n c k % 86400 := by omega
    by_cases ho : dnI y m d + atK h i s n c k / 86400 < -4371587 ∨ 2932896 < dnI y m d + atK h i s n c k / 86400
    · obtain ⟨t1, t2, t3⟩ := tk_no (f := -377705116800) (l := 253402300799) (x := nanos (nuT y m d h i s) n + nanos c k) (by rw [e1]; omega)
      rw [t3] at a1
      have he := hat.trans a1
      rcases hc with ⟨h0, rfl, rfl, rfl, rfl, rfl, rfl, rfl, hE⟩ | ⟨h0, _⟩
      · rw [hE, he]
        exact ptAdd_out y m d h i s n c k _ _ _ _ _ _ ct rfl (by unfold in64; omega) (Lib.hid X2) ho w hM
      · rw [he] at h0; exact absurd h0 (by decide)
    · obtain ⟨t1, t2, t3⟩ := tk_yes (f := -377705116800) (l := 253402300799) (x := nanos (nuT y m d h i s) n + nanos c k) (by rw [e1]; omega) (by rw [e1]; omega)
      rw [t3] at a1
      rw [t1, e1] at a2
      rw [t2, e2] at a3
      rcases hc with ⟨h0, _⟩ | ⟨_, hc⟩
      · exact absurd (hat.trans a1) h0
      · rw [a2, a3] at hc
        rcases hc with ⟨hn, _⟩ | ⟨_, _, hS, _⟩ | ⟨_, _, _, _, mb, y1, y2, hd2, rfl, rfl, rfl, rfl, rfl⟩
        · exfalso; omega
        · exfalso; omega
        · rw [hr]
          exact ptAdd_yes y m d h i s n c k _ _ _ _ _ _ _ _ _ ct rfl (by unfold in64; omega) (Lib.hid X2) (Or.inr ⟨mb, y1, y2, by rw [hd2, hq], rfl⟩) w hM
  · have he : atE y m d h i s n c k = fsI (ckT y m d h i s n) (ckD c k) := if_pos hf
    rcases hc with ⟨h0, rfl, rfl, rfl, rfl, rfl, rfl, rfl, hE⟩ | ⟨h0, _⟩
    · have hF := ct_err y m d h i s n c k
      have hp : 0 ≤ (if ckK h i s n = 0 then ckD c k else ckK h i s n) := by
        split
        · exact (ckD_pos c k).1
        · rcases ckK_two h i s n with e | e <;> omega
      have X2 : ∃ T0 T1 T2 T3 J, ∀ w, TB w → Calls Tryd.prog 30 #[.agg #[.int .i64 h, .int .i64 i, .int .i64 s, .int .i64 n], .agg #[.int .i64 c, .int .i64 k]] w fun e w' => e = .returned (.tuple #[.agg #[.int .i64 T0, .int .i64 T1, .int .i64 T2, .int .i64 T3], .int .i64 J, .int .i64 (if ckK h i s n = 0 then ckD c k else ckK h i s n)]) ∧ Below w.heap.size w w' := by
        by_cases kk : ckK h i s n = 0
        · rw [if_pos kk]
          by_cases cd : ckD c k = 0
          · rw [cd]
            exact ⟨_, _, _, _, _, fun w hM => pkAdd_any h i s n c k (by rw [kk, cd]; unfold fsI; rfl) w hM.sz⟩
          · exact ⟨_, _, _, _, _, fun w hM => pkAdd_no2 h i s n c k kk cd w hM.sz⟩
        · rw [if_neg kk]
          exact ⟨_, _, _, _, _, fun w hM => pkAdd_no1 h i s n c k kk w hM.sz⟩
      obtain ⟨T0, T1, T2, T3, J, X2⟩ := X2
      rw [hE, he]
      exact ptAdd_no y m d h i s n c k T0 T1 T2 T3 J _ _ hF hf hp (Lib.hid X2) w hM
    · rw [he] at h0; exact absurd h0 hf
theorem ptAdd_is {y m d h i s n c k r0 r1 r2 r3 r4 r5 r6 E : Int} (hc : AtIs y m d h i s n c k r0 r1 r2 r3 r4 r5 r6 E) (bc : in64 c) (bk : in64 k) (w : World) (hM : TB w) :
    Calls Tryd.prog 14 #[.agg #[.int .i64 y, .int .i64 m, .int .i64 d, .int .i64 h, .int .i64 i, .int .i64 s, .int .i64 n], .agg #[.int .i64 c, .int .i64 k]] w fun e w' => e = .returned (.tuple #[.agg #[.int .i64 r0, .int .i64 r1, .int .i64 r2, .int .i64 r3, .int .i64 r4, .int .i64 r5, .int .i64 r6], .int .i64 E]) ∧ Below w.heap.size w w' := ptAdd_at hc w hM
theorem of_at {S n y m d h i s k E : Int} (hc : IsCiv S n y m d h i s k E) : AtIs 1970 1 1 0 0 0 n S 0 y m d h i s k E := by
  have z : nuT 1970 1 1 0 0 0 = 0 := by decide +kernel
  have f50 : fsI 5 0 = 5 := by unfold fsI; decide
  have f55 : fsI 5 5 = 5 := by unfold fsI; decide
  have f58 : fsI 5 8 = 5 := by unfold fsI; decide
  have f00 : fsI 0 0 = 0 := by unfold fsI; decide
  have f08 : fsI 0 8 = 8 := by unfold fsI; decide
  rcases hc with ⟨hn, rfl, rfl, rfl, rfl, rfl, rfl, rfl, rfl⟩ | ⟨n1, n2, hS, rfl, rfl, rfl, rfl, rfl, rfl, rfl, rfl⟩ | ⟨n1, n2, s1, s2, mb, y1, y2, hd, h1, h2, h3, h4, h5⟩
  · have kk : ckK 0 0 0 n = 5 := by
      rcases ckK_two 0 0 0 n with e | e
      · have := of_ckK e; unfold okK at this; omega
      · exact e
    have ct : ckT 1970 1 1 0 0 0 n = 5 := by rw [ckT_no (by rw [kk]; decide), kk]
    have he : atE 1970 1 1 0 0 0 n S 0 = 5 := by
      unfold atE; rw [ct]
      rcases ckD_three S 0 with e | e | e <;> rw [e] <;> simp [f50, f55, f58]
    exact Or.inl ⟨by rw [he]; decide, rfl, rfl, rfl, rfl, rfl, rfl, rfl, he.symm⟩
  all_goals
    have kk : ckK 0 0 0 n = 0 := ckK_ok (by unfold okK; omega)
    have ct : ckT 1970 1 1 0 0 0 n = 0 := by rw [ckT_ok kk]; decide +kernel
    have hi : ckI 0 n = 0 := ckI_ok (wmB_true n1 n2) (by omega)
    obtain ⟨a1, a2, a3⟩ := ad_sum (s := 0) (n := n) (d := S) (m := 0) (wmB_true (by omega) (by omega)) hi
    have e1 : (nanos 0 n + nanos S 0) / 1000000000 = S := by unfold nanos; omega
    have e2 : (nanos 0 n + nanos S 0) % 1000000000 = n := by unfold nanos; omega
  · obtain ⟨t1, t2, t3⟩ := tk_no (f := -377705116800) (l := 253402300799) (x := nanos 0 n + nanos S 0) (by rw [e1]; omega)
    have he : atE 1970 1 1 0 0 0 n S 0 = 8 := by
      unfold atE; rw [ct, z, a1, t3]
      rcases ckD_three S 0 with e | e | e
      · rw [e]; simp [f00]
      · exfalso; unfold ckD at e; rw [if_pos (wmB_true (by omega) (by omega))] at e; split at e <;> omega
      · rw [e]; simp [f08]
    exact Or.inl ⟨by rw [he]; decide, rfl, rfl, rfl, rfl, rfl, rfl, rfl, he.symm⟩
  · obtain ⟨t1, t2, t3⟩ := tk_yes (f := -377705116800) (l := 253402300799) (x := nanos 0 n + nanos S 0) (by rw [e1]; omega) (by rw [e1]; omega)
    have hD : ckD S 0 = 0 := ckD_ok (wmB_true (by omega) (by omega)) (by omega)
    have he : atE 1970 1 1 0 0 0 n S 0 = 0 := by
      unfold atE; rw [ct, z, a1, t3, hD]; simp [f00]
    refine Or.inr ⟨he, ?_⟩
    rw [z, a2, a3, t1, t2, e1, e2]
    exact Or.inr (Or.inr ⟨n1, n2, s1, s2, mb, y1, y2, hd, h1, h2, h3, h4, h5⟩)
set_option maxHeartbeats 3200000 in
set_option maxRecDepth 100000 in
theorem ptOf_is {S n y m d h i s k E : Int} (hc : IsCiv S n y m d h i s k E) (w : World) (hM : TB w) : Calls Tryd.prog 9 #[.int .i64 S, .int .i64 n] w fun e w' => e = .returned (.tuple #[.agg #[.int .i64 y, .int .i64 m, .int .i64 d, .int .i64 h, .int .i64 i, .int .i64 s, .int .i64 k], .int .i64 E]) ∧ Below w.heap.size w w' := by
  have H1 := Lib.hid (ptAdd_at (of_at hc))
  clear hc
  replace hM := Lib.hid hM
  go_enter Tryd.func9, Tryd.ntmps9
  refine wp_shut ?_
  go_wp2_with fail
  
  refine (H1.out _ (by first | exact tb_keep hM (((Below.refl w.heap.size w).alloc (Nat.le_refl _) _).alloc (by simp <;> omega) _))).mono ?_
  rintro e V1 ⟨rfl, hb1⟩
  have B1 := Lib.hid ((((Below.refl w.heap.size w).alloc (Nat.le_refl _) _).alloc (by simp <;> omega) _).trans (hb1.mono (by first | assumption | (simp <;> omega) | (simp; done))))
  have Z1 := Lib.hid (row_call hb1 (row_alloc (heap_alloc_new _ _) _))
  have A1 := Lib.hid (row_at (k' := w.heap.size + 1) (by simp) (row_call hb1 (heap_alloc_new _ _)))
  clear hb1
  have Z1_0 : V1.cell? ⟨w.heap.size, 0, none⟩ = some (.int .i64 0) := cell_of_row _ _ _ _ _ _ Z1.out
  have Z1_1 : V1.cell? ⟨w.heap.size, 1, none⟩ = some (.int .i64 0) := cell_of_row _ _ _ _ _ _ Z1.out
  have Z1_2 : V1.cell? ⟨w.heap.size, 2, none⟩ = some (.int .i64 0) := cell_of_row _ _ _ _ _ _ Z1.out
  have Z1_3 : V1.cell? ⟨w.heap.size, 3, none⟩ = some (.int .i64 0) := cell_of_row _ _ _ _ _ _ Z1.out
  have Z1_4 : V1.cell? ⟨w.heap.size, 4, none⟩ = some (.int .i64 0) := cell_of_row _ _ _ _ _ _ Z1.out
  have Z1_5 : V1.cell? ⟨w.heap.size, 5, none⟩ = some (.int .i64 0) := cell_of_row _ _ _ _ _ _ Z1.out
  have Z1_6 : V1.cell? ⟨w.heap.size, 6, none⟩ = some (.int .i64 0) := cell_of_row _ _ _ _ _ _ Z1.out
  have Z1_f0 : V1.frozen? ⟨w.heap.size, 0, none⟩ = false := by simp [World.frozen?, Z1.out]
  have Z1_f1 : V1.frozen? ⟨w.heap.size, 1, none⟩ = false := by simp [World.frozen?, Z1.out]
  have Z1_f2 : V1.frozen? ⟨w.heap.size, 2, none⟩ = false := by simp [World.frozen?, Z1.out]
  have Z1_f3 : V1.frozen? ⟨w.heap.size, 3, none⟩ = false := by simp [World.frozen?, Z1.out]
  have Z1_f4 : V1.frozen? ⟨w.heap.size, 4, none⟩ = false := by simp [World.frozen?, Z1.out]
  have Z1_f5 : V1.frozen? ⟨w.heap.size, 5, none⟩ = false := by simp [World.frozen?, Z1.out]
  have Z1_f6 : V1.frozen? ⟨w.heap.size, 6, none⟩ = false := by simp [World.frozen?, Z1.out]
  have A1_0 : V1.cell? ⟨w.heap.size + 1, 0, none⟩ = some (.int .i64 1970) := cell_of_row _ _ _ _ _ _ A1.out
  have A1_1 : V1.cell? ⟨w.heap.size + 1, 1, none⟩ = some (.int .i64 1) := cell_of_row _ _ _ _ _ _ A1.out
  have A1_2 : V1.cell? ⟨w.heap.size + 1, 2, none⟩ = some (.int .i64 1) := cell_of_row _ _ _ _ _ _ A1.out
  have A1_3 : V1.cell? ⟨w.heap.size + 1, 3, none⟩ = some (.int .i64 0) := cell_of_row _ _ _ _ _ _ A1.out
  have A1_4 : V1.cell? ⟨w.heap.size + 1, 4, none⟩ = some (.int .i64 0) := cell_of_row _ _ _ _ _ _ A1.out
  have A1_5 : V1.cell? ⟨w.heap.size + 1, 5, none⟩ = some (.int .i64 0) := cell_of_row _ _ _ _ _ _ A1.out
  have A1_6 : V1.cell? ⟨w.heap.size + 1, 6, none⟩ = some (.int .i64 n) := cell_of_row _ _ _ _ _ _ A1.out
  have zZ1 := lt_of_heap Z1.out
  have zA1 := lt_of_heap A1.out
  go_simp
  have rZ1 := setRow_heap V1 (w.heap.size) _ #[Value.int .i64 y, Value.int .i64 m, Value.int .i64 d, Value.int .i64 h, Value.int .i64 i, Value.int .i64 s, Value.int .i64 k] _ _ Z1.out
  have rZ1_0 : (V1.setRow (w.heap.size) #[Value.int .i64 y, Value.int .i64 m, Value.int .i64 d, Value.int .i64 h, Value.int .i64 i, Value.int .i64 s, Value.int .i64 k]).cell? ⟨w.heap.size, 0, none⟩ = some (.int .i64 y) := cell_of_row _ _ _ _ _ _ rZ1
  have rZ1_1 : (V1.setRow (w.heap.size) #[Value.int .i64 y, Value.int .i64 m, Value.int .i64 d, Value.int .i64 h, Value.int .i64 i, Value.int .i64 s, Value.int .i64 k]).cell? ⟨w.heap.size, 1, none⟩ = some (.int .i64 m) := cell_of_row _ _ _ _ _ _ rZ1
  have rZ1_2 : (V1.setRow (w.heap.size) #[Value.int .i64 y, Value.int .i64 m, Value.int .i64 d, Value.int .i64 h, Value.int .i64 i, Value.int .i64 s, Value.int .i64 k]).cell? ⟨w.heap.size, 2, none⟩ = some (.int .i64 d) := cell_of_row _ _ _ _ _ _ rZ1
  have rZ1_3 : (V1.setRow (w.heap.size) #[Value.int .i64 y, Value.int .i64 m, Value.int .i64 d, Value.int .i64 h, Value.int .i64 i, Value.int .i64 s, Value.int .i64 k]).cell? ⟨w.heap.size, 3, none⟩ = some (.int .i64 h) := cell_of_row _ _ _ _ _ _ rZ1
  have rZ1_4 : (V1.setRow (w.heap.size) #[Value.int .i64 y, Value.int .i64 m, Value.int .i64 d, Value.int .i64 h, Value.int .i64 i, Value.int .i64 s, Value.int .i64 k]).cell? ⟨w.heap.size, 4, none⟩ = some (.int .i64 i) := cell_of_row _ _ _ _ _ _ rZ1
  have rZ1_5 : (V1.setRow (w.heap.size) #[Value.int .i64 y, Value.int .i64 m, Value.int .i64 d, Value.int .i64 h, Value.int .i64 i, Value.int .i64 s, Value.int .i64 k]).cell? ⟨w.heap.size, 5, none⟩ = some (.int .i64 s) := cell_of_row _ _ _ _ _ _ rZ1
  have rZ1_6 : (V1.setRow (w.heap.size) #[Value.int .i64 y, Value.int .i64 m, Value.int .i64 d, Value.int .i64 h, Value.int .i64 i, Value.int .i64 s, Value.int .i64 k]).cell? ⟨w.heap.size, 6, none⟩ = some (.int .i64 k) := cell_of_row _ _ _ _ _ _ rZ1
  go_wp2_with (refine wpList_store_row (by rfl) 27 _ _ (by rfl) (w.heap.size) #[Value.int .i64 y, Value.int .i64 m, Value.int .i64 d, Value.int .i64 h, Value.int .i64 i, Value.int .i64 s, Value.int .i64 k] (by rfl) (by rfl) _ _ Z1.out (by kernel_rfl) (by rfl) (by simp [Value.oneCell']) ?_)
  refine shut_ret (v := .tuple #[.agg #[.int .i64 y, .int .i64 m, .int .i64 d, .int .i64 h, .int .i64 i, .int .i64 s, .int .i64 k], .int .i64 E]) (by simp [results, Tryd.results9, go_sem, rZ1_0, rZ1_1, rZ1_2, rZ1_3, rZ1_4, rZ1_5, rZ1_6]) rfl ⟨rfl, ?_⟩
  exact keepRow B1.out (by omega) _
end Go.Proofs.YtaoljjhhbmblhaaDoor
