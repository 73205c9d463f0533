/- Several texts in one: RpN, RpO. -/
import Derived.Test.YteinjdmkmfeniaaGreatDoorZRp3
import Derived.Test.YteinjdmkmfeniaaGreatDoorZRp4
namespace Go.Proofs.YteinjdmkmfeniaaGreatDoor
set_option linter.unusedVariables false
set_option linter.unusedSimpArgs false
open Go.ChangeShapes Go.WideShapes Go.ChangeAt Go.RowKit
set_option maxHeartbeats 3200000 in
set_option maxRecDepth 100000 in
theorem pEndWord_only (k s f m dk dn dw ti rd off : Int) (dst : Bool) (S : ByteArray) (w : World) : Calls Tryz.prog 28 #[.agg #[.int .i64 k, .int .i64 s, .int .i64 f, .int .i64 f, .int .i64 m, .int .i64 dk, .int .i64 dn, .int .i64 dw, .int .i64 ti, .int .i64 rd, .int .i64 off, .bool dst, .string S]] w fun e w' => e = .returned (.string (bs onlyL)) ∧ Below w.heap.size w w' := by
  have q : (f == f) = true := beq_self_eq_true f
  have E : Hid ((⟨#[111, 110, 108, 121]⟩ : ByteArray) = bs onlyL) := Lib.hid (lit_of #[111, 110, 108, 121] onlyL rfl).symm
  go_enter Tryz.func28, Tryz.ntmps28
  go_wp2
  go_ret
  exact ⟨by rw [← E.out]; rfl, (Below.refl _ _).alloc (Nat.le_refl _) _⟩
set_option maxHeartbeats 3200000 in
set_option maxRecDepth 100000 in
theorem pEndWord_on (k s f m dk dn dw ti rd off : Int) (dst : Bool) (S : ByteArray) (h : f ≠ 1048576) (w : World) : Calls Tryz.prog 28 #[.agg #[.int .i64 k, .int .i64 s, .int .i64 f, .int .i64 1048576, .int .i64 m, .int .i64 dk, .int .i64 dn, .int .i64 dw, .int .i64 ti, .int .i64 rd, .int .i64 off, .bool dst, .string S]] w fun e w' => e = .returned (.string (bs onL)) ∧ Below w.heap.size w w' := by
  have q : ((1048576 : Int) == f) = false := beq_false_of_ne (fun e => h e.symm)
  have E : Hid ((⟨#[111, 110]⟩ : ByteArray) = bs onL) := Lib.hid (lit_of #[111, 110] onL rfl).symm
  clear h
  go_enter Tryz.func28, Tryz.ntmps28
  go_wp2
  go_ret
  exact ⟨by rw [← E.out]; rfl, (Below.refl _ _).alloc (Nat.le_refl _) _⟩
set_option maxHeartbeats 3200000 in
set_option maxRecDepth 100000 in
theorem pEndWord_nb (k s f t m dk dn dw ti rd off : Int) (dst : Bool) (S : ByteArray) (h : t ≠ f) (h2 : t ≠ 1048576) (t0 : -9999 ≤ t) (t1 : t ≤ 9999) (w : World) (hK : KX w) : Calls Tryz.prog 28 #[.agg #[.int .i64 k, .int .i64 s, .int .i64 f, .int .i64 t, .int .i64 m, .int .i64 dk, .int .i64 dn, .int .i64 dw, .int .i64 ti, .int .i64 rd, .int .i64 off, .bool dst, .string S]] w fun e w' => e = .returned (.string (bs (nbI t))) ∧ Below w.heap.size w w' := by
  have q : (t == f) = false := beq_false_of_ne h
  have q2 : (t == 1048576) = false := beq_false_of_ne h2
  have H := Lib.hid (pItoa_any t (by omega) (by omega))
  clear h h2 t0 t1
  generalize nbI t = T at *
  replace hK := Lib.hid hK
  have hM := hK
  go_enter Tryz.func28, Tryz.ntmps28
  go_wp2_with fail
  
  refine (H.out _ (by first | exact kx_keep hM ((Below.refl w.heap.size w).alloc (Nat.le_refl _) _))).mono ?_
  rintro e V1 ⟨rfl, hb1⟩
  have B1 := Lib.hid (((Below.refl w.heap.size w).alloc (Nat.le_refl _) _).trans (hb1.mono (by first | assumption | (simp <;> omega) | (simp; done))))
  have A1 := Lib.hid (row_call hb1 (heap_alloc_new _ _))
  clear hb1
  have A1_0 : V1.cell? ⟨w.heap.size, 0, none⟩ = some (.int .i64 k) := cell_of_row _ _ _ _ _ _ A1.out
  have A1_1 : V1.cell? ⟨w.heap.size, 1, none⟩ = some (.int .i64 s) := cell_of_row _ _ _ _ _ _ A1.out
  have A1_2 : V1.cell? ⟨w.heap.size, 2, none⟩ = some (.int .i64 f) := cell_of_row _ _ _ _ _ _ A1.out
  have A1_3 : V1.cell? ⟨w.heap.size, 3, none⟩ = some (.int .i64 t) := cell_of_row _ _ _ _ _ _ A1.out
  have A1_4 : V1.cell? ⟨w.heap.size, 4, none⟩ = some (.int .i64 m) := cell_of_row _ _ _ _ _ _ A1.out
  have A1_5 : V1.cell? ⟨w.heap.size, 5, none⟩ = some (.int .i64 dk) := cell_of_row _ _ _ _ _ _ A1.out
  have A1_6 : V1.cell? ⟨w.heap.size, 6, none⟩ = some (.int .i64 dn) := cell_of_row _ _ _ _ _ _ A1.out
  have A1_7 : V1.cell? ⟨w.heap.size, 7, none⟩ = some (.int .i64 dw) := cell_of_row _ _ _ _ _ _ A1.out
  have A1_8 : V1.cell? ⟨w.heap.size, 8, none⟩ = some (.int .i64 ti) := cell_of_row _ _ _ _ _ _ A1.out
  have A1_9 : V1.cell? ⟨w.heap.size, 9, none⟩ = some (.int .i64 rd) := cell_of_row _ _ _ _ _ _ A1.out
  have A1_10 : V1.cell? ⟨w.heap.size, 10, none⟩ = some (.int .i64 off) := cell_of_row _ _ _ _ _ _ A1.out
  have A1_11 : V1.cell? ⟨w.heap.size, 11, none⟩ = some (.bool dst) := cell_of_row _ _ _ _ _ _ A1.out
  have A1_12 : V1.cell? ⟨w.heap.size, 12, none⟩ = some (.string S) := cell_of_row _ _ _ _ _ _ A1.out
  have zA1 := lt_of_heap A1.out
  go_simp
  go_wp2
  go_ret
  exact ⟨rfl, B1.out⟩
theorem pEndWord_any (k s f t m dk dn dw ti rd off : Int) (dst : Bool) (S : ByteArray) (f1 : -9999 ≤ f) (f2 : f ≤ 9999) (ht : t = 1048576 ∨ (-9999 ≤ t ∧ t ≤ 9999)) (w : World) (hK : KX w) : Calls Tryz.prog 28 #[.agg #[.int .i64 k, .int .i64 s, .int .i64 f, .int .i64 t, .int .i64 m, .int .i64 dk, .int .i64 dn, .int .i64 dw, .int .i64 ti, .int .i64 rd, .int .i64 off, .bool dst, .string S]] w fun e w' => e = .returned (.string (bs (toW f t))) ∧ Below w.heap.size w w' := by
  unfold toW
  by_cases h : t = 1048576
  · rw [if_pos h]
    subst h
    exact pEndWord_on k s f m dk dn dw ti rd off dst S (by omega) w
  · rw [if_neg h]
    by_cases h2 : t = f
    · rw [if_pos h2]
      subst h2
      exact pEndWord_only k s t m dk dn dw ti rd off dst S w
    · rw [if_neg h2]
      exact pEndWord_nb k s f t m dk dn dw ti rd off dst S h2 h (by omega) (by omega) w hK
set_option maxHeartbeats 3200000 in
set_option maxRecDepth 100000 in
theorem pLw_atD (s f t m dk dn dw ti rd off : Int) (O MW : List UInt8) (A : List UInt8) (w : World) (HO : Hid (∀ W, Below w.heap.size w W → Calls Tryz.prog 12 #[.int .i64 off] W fun e w' => e = .returned (.string (bs O)) ∧ Below W.heap.size W w')) (HM : Hid (∀ W, Below w.heap.size w W → Calls Tryz.prog 26 #[.int .i64 s] W fun e w' => e = .returned (.string (bs MW)) ∧ Below W.heap.size W w')) :
    Calls Tryz.prog 13 #[.agg #[.int .i64 1, .int .i64 s, .int .i64 f, .int .i64 t, .int .i64 m, .int .i64 dk, .int .i64 dn, .int .i64 dw, .int .i64 ti, .int .i64 rd, .int .i64 off, .bool true, .string (bs A)]] w fun e w' => (∃ b c, e = .returned (.slice (some ⟨b, 0, none⟩) 5 c) ∧ Wds w' b [atW, MW, O, dstL, A] ∧ w.heap.size ≤ b) ∧ Below w.heap.size w w' := by
  obtain ⟨i1, hi, hz0, hz1, hz2⟩ := info_parts infoStr
  have Z0 := Lib.hid (heap_alloc_new w (.cells #[.int .i64 1, .int .i64 s, .int .i64 f, .int .i64 t, .int .i64 m, .int .i64 dk, .int .i64 dn, .int .i64 dw, .int .i64 ti, .int .i64 rd, .int .i64 off, .bool true, .string (bs A)] 41))
  have B0 := Lib.hid ((Below.refl _ w).alloc (Nat.le_refl _) (.cells #[.int .i64 1, .int .i64 s, .int .i64 f, .int .i64 t, .int .i64 m, .int .i64 dk, .int .i64 dn, .int .i64 dw, .int .i64 ti, .int .i64 rd, .int .i64 off, .bool true, .string (bs A)] 41))
  have hsz0 : (w.alloc (.cells #[.int .i64 1, .int .i64 s, .int .i64 f, .int .i64 t, .int .i64 m, .int .i64 dk, .int .i64 dn, .int .i64 dw, .int .i64 ti, .int .i64 rd, .int .i64 off, .bool true, .string (bs A)] 41)).heap.size = w.heap.size + 1 := by simp
  go_enter Tryz.func13, Tryz.ntmps13
  go_wp2_with fail
  obtain ⟨W0, hW0⟩ : ∃ W0, W0 = w.alloc (.cells #[.int .i64 1, .int .i64 s, .int .i64 f, .int .i64 t, .int .i64 m, .int .i64 dk, .int .i64 dn, .int .i64 dw, .int .i64 ti, .int .i64 rd, .int .i64 off, .bool true, .string (bs A)] 41) := ⟨_, rfl⟩
  rw [← hW0] at Z0 B0 hsz0 ⊢
  clear hW0
  have zl : w.heap.size < W0.heap.size := by omega
  have s0 : W0.cell? ⟨w.heap.size, 10, none⟩ = some (.int .i64 off) := cell_of_row _ _ _ _ _ _ Z0.out
  have s1 : W0.cell? ⟨w.heap.size, 12, none⟩ = some (.string (bs A)) := cell_of_row _ _ _ _ _ _ Z0.out
  have Bd : Below w.heap.size w W0.drew := B0.out.drew
  refine region_plan (S := fun w2 => w2.cell? ⟨w.heap.size, 10, none⟩ = some (.int .i64 off) ∧ w2.cell? ⟨w.heap.size, 12, none⟩ = some (.string (bs A))) [(0, true), (1, true), (2, true), (4, true), (5, true), (6, true), (7, true), (3, false), (8, false), (9, true)] (by as_aux_lemma => kernel_rfl) (by as_aux_lemma => kernel_rfl) (by as_aux_lemma => kernel_rfl) (by as_aux_lemma => kernel_rfl) ⟨by rw [World.cell?_drew]; exact s0, by rw [World.cell?_drew]; exact s1⟩ ?_
  refine plan_yes (v := ?va0) (by simp only [List.getElem?_toArray, List.getElem?_cons_zero, List.getElem?_cons_succ]; exact rfl) (Or.inl ⟨by as_aux_lemma => rfl, ?hya0⟩) ?resta0
  case hya0 => (intro w2 hSw; (try dsimp only at hSw); obtain ⟨r0, r1⟩ := hSw; go_simp; try with_reducible rfl)
  try simp only [Act.put, List.setIfInBounds_toArray, List.set_cons_zero, List.set_cons_succ]
  refine plan_yes (v := ?va1) (by simp only [List.getElem?_toArray, List.getElem?_cons_zero, List.getElem?_cons_succ]; exact rfl) (Or.inl ⟨by as_aux_lemma => rfl, ?hya1⟩) ?resta1
  case hya1 => (intro w2 hSw; (try dsimp only at hSw); obtain ⟨r0, r1⟩ := hSw; go_simp; try with_reducible rfl)
  try simp only [Act.put, List.setIfInBounds_toArray, List.set_cons_zero, List.set_cons_succ]
  refine plan_yes (v := ?va2) (by simp only [List.getElem?_toArray, List.getElem?_cons_zero, List.getElem?_cons_succ]; exact rfl) (Or.inl ⟨by as_aux_lemma => rfl, ?hya2⟩) ?resta2
  case hya2 => (intro w2 hSw; (try dsimp only at hSw); obtain ⟨r0, r1⟩ := hSw; go_simp; try with_reducible rfl)
  try simp only [Act.put, List.setIfInBounds_toArray, List.set_cons_zero, List.set_cons_succ]
  refine plan_yes (v := ?va4) (by simp only [List.getElem?_toArray, List.getElem?_cons_zero, List.getElem?_cons_succ]; exact rfl) (Or.inl ⟨by as_aux_lemma => rfl, ?hya4⟩) ?resta4
  case hya4 => (intro w2 hSw; (try dsimp only at hSw); obtain ⟨r0, r1⟩ := hSw; go_simp; try with_reducible rfl)
  try simp only [Act.put, List.setIfInBounds_toArray, List.set_cons_zero, List.set_cons_succ]
  refine plan_yes (v := ?va5) (by simp only [List.getElem?_toArray, List.getElem?_cons_zero, List.getElem?_cons_succ]; exact rfl) (Or.inl ⟨by as_aux_lemma => rfl, ?hya5⟩) ?resta5
  case hya5 => (intro w2 hSw; (try dsimp only at hSw); obtain ⟨r0, r1⟩ := hSw; go_simp; try with_reducible rfl)
  try simp only [Act.put, List.setIfInBounds_toArray, List.set_cons_zero, List.set_cons_succ]
  refine plan_yes (v := ?va6) (by simp only [List.getElem?_toArray, List.getElem?_cons_zero, List.getElem?_cons_succ]; exact rfl) (Or.inl ⟨by as_aux_lemma => rfl, ?hya6⟩) ?resta6
  case hya6 => (intro w2 hSw; (try dsimp only at hSw); obtain ⟨r0, r1⟩ := hSw; go_simp; try with_reducible rfl)
  try simp only [Act.put, List.setIfInBounds_toArray, List.set_cons_zero, List.set_cons_succ]
  refine plan_yes (v := ?va7) (by simp only [List.getElem?_toArray, List.getElem?_cons_zero, List.getElem?_cons_succ]; exact rfl) (Or.inl ⟨by as_aux_lemma => rfl, ?hya7⟩) ?resta7
  case hya7 => (intro w2 hSw; (try dsimp only at hSw); obtain ⟨r0, r1⟩ := hSw; go_simp; try with_reducible rfl)
  try simp only [Act.put, List.setIfInBounds_toArray, List.set_cons_zero, List.set_cons_succ]
  refine plan_calls (by simp only [List.getElem?_toArray, List.getElem?_cons_zero, List.getElem?_cons_succ]; exact rfl) (by as_aux_lemma => rfl) (fun K hK => ?_)
  go_simp
  refine (HO.out _ Bd).mono ?_
  rintro e w5 ⟨rfl, hb5⟩
  have Z5 := row_call hb5 Z0.out
  have B5 := Lib.hid (Bd.trans (hb5.mono Bd.size))
  replace zl := lt_of_heap Z5
  replace s0 : w5.cell? ⟨w.heap.size, 10, none⟩ = some (.int .i64 off) := cell_of_row _ _ _ _ _ _ Z5
  replace s1 : w5.cell? ⟨w.heap.size, 12, none⟩ = some (.string (bs A)) := cell_of_row _ _ _ _ _ _ Z5
  refine hK.out _ _ ⟨s0, s1⟩ ?_
  clear hK K hb5
  try simp only [Act.put, List.setIfInBounds_toArray, List.set_cons_zero, List.set_cons_succ]
  refine plan_calls (by simp only [List.getElem?_toArray, List.getElem?_cons_zero, List.getElem?_cons_succ]; exact rfl) (by as_aux_lemma => rfl) (fun K hK => ?_)
  go_simp
  have Z6 := Lib.hid (row_alloc Z5 (.cells #[.string (bs O), .string ⟨#[100, 115, 116]⟩, .string (bs A)] 9))
  have L6 := Lib.hid (heap_alloc_new w5 (.cells #[.string (bs O), .string ⟨#[100, 115, 116]⟩, .string (bs A)] 9))
  have B6 := Lib.hid (B5.out.alloc B5.out.size (.cells #[.string (bs O), .string ⟨#[100, 115, 116]⟩, .string (bs A)] 9))
  have z6 : (w5.alloc (.cells #[.string (bs O), .string ⟨#[100, 115, 116]⟩, .string (bs A)] 9)).heap.size = w5.heap.size + 1 := by simp
  refine hK.out _ _ ⟨cell_of_row _ _ _ _ _ _ Z6.out, cell_of_row _ _ _ _ _ _ Z6.out⟩ ?_
  clear hK K s0 s1
  try simp only [Act.put, List.setIfInBounds_toArray, List.set_cons_zero, List.set_cons_succ]
  refine plan_yes (v := ?va9) (by simp only [List.getElem?_toArray, List.getElem?_cons_zero, List.getElem?_cons_succ]; exact rfl) (Or.inl ⟨by as_aux_lemma => rfl, ?hya9⟩) ?resta9
  case hya9 => (intro w2 hSw; (try dsimp only at hSw); obtain ⟨r0, r1⟩ := hSw; go_simp; try with_reducible rfl)
  try simp only [Act.put, List.setIfInBounds_toArray, List.set_cons_zero, List.set_cons_succ]
  refine plan_done (NoPanic.normal ?_)
  obtain ⟨W1, hW1⟩ : ∃ W1, W1 = w5.alloc (.cells #[.string (bs O), .string ⟨#[100, 115, 116]⟩, .string (bs A)] 9) := ⟨_, rfl⟩
  rw [← hW1] at Z6 L6 B6 z6 ⊢
  clear hW1
  have hne : w.heap.size ≠ w5.heap.size := Nat.ne_of_lt zl
  have hl5 : w.heap.size ≤ w5.heap.size := Nat.le_of_lt zl
  replace Z5 := Lib.hid Z5
  clear zl
  have k0 : W1.cell? ⟨w.heap.size, 0, none⟩ = some (.int .i64 1) := cell_of_row _ _ _ _ _ _ Z6.out
  have k1 : W1.cell? ⟨w.heap.size, 1, none⟩ = some (.int .i64 s) := cell_of_row _ _ _ _ _ _ Z6.out
  go_simp
  go_wp2_with fail
  refine (HM.out _ B6.out).mono ?_
  rintro e w7 ⟨rfl, hb7⟩
  have L7 := row_call hb7 L6.out
  have B7 := Lib.hid (B6.out.trans (hb7.mono B6.out.size))
  have O8 := World.ownsRow_lit (e := 9) (base := w7.heap.size) (size := 1) w7 #[.string ⟨#[97, 116]⟩, .string (bs MW)] 2 (Nat.le_refl _) (by decide) (by rfl)
  have L8 := row_alloc L7 (.cells #[.string ⟨#[97, 116]⟩, .string (bs MW)] 9)
  have B8 := Lib.hid (B7.out.alloc B7.out.size (.cells #[.string ⟨#[97, 116]⟩, .string (bs MW)] 9))
  have z8 := lt_of_heap L7
  have hz9 := hb7.size
  replace L7 := Lib.hid L7
  clear hb7 k0 k1
  go_wp2_with (first
    | (at_builtin
       refine wpList_append_lies _ rfl (.tmp 23) (.tmp 24) 45 rfl w7.heap.size 9 i1 (.string ⟨#[]⟩) 1 16 Tryz.underlying45 hi hz0 hz1 hz2 rfl (by decide) _ _ _ rfl O8 ⟨w5.heap.size, 0, none⟩ 3 3 [.string (bs O), .string ⟨#[100, 115, 116]⟩, .string (bs A)] rfl rfl (World.news_of_block (cs := #[.string (bs O), .string ⟨#[100, 115, 116]⟩, .string (bs A)]) L8) (by intro u hu; simp at hu; rcases hu with rfl | rfl | rfl <;> rfl) (by decide) (by decide) (by decide) (by simp) _ rfl ?_
       intro g cap w3 hown1 hgrow hat hlt1)
    | fail)
  have Bf : Hid (Below w.heap.size w w3) := Lib.hid (B8.out.grown hgrow B8.out.size (fun k hk => by have := (O8.lt k hk).1; omega))
  have hg := (hown1.lt g rfl).1
  have hW : Hid (Wds w3 g [atW, MW, O, dstL, A]) := Lib.hid (by
    rcases hown1.2 with ⟨h', _⟩ | ⟨g', cap', cur, h', _, hgh, _, _, _, htake⟩
    · simp at h'
    · simp only [Value.slice.injEq, Option.some.injEq, Addr.mk.injEq, and_true, true_and] at h'
      obtain ⟨rfl, rfl⟩ := h'
      refine ⟨cur, _, hgh, fun q hq => ?_⟩
      have e1 : cur[q]? = (cur.toList.take 5)[q]? := by
        have hq5 : q < 5 := hq
        rw [List.getElem?_take, if_pos hq5]
        simp
      have e2 : cur.toList.take 5 = [.string ⟨#[97, 116]⟩, .string (bs MW), .string (bs O), .string ⟨#[100, 115, 116]⟩, .string (bs A)] := htake
      rw [e1, e2, ← lit_of #[97, 116] atW rfl, ← lit_of #[100, 115, 116] dstL rfl]
      match q, hq with
      | 0, _ => rfl
      | 1, _ => rfl
      | 2, _ => rfl
      | 3, _ => rfl
      | 4, _ => rfl)
  clear hown1 hgrow hat
  go_wp2
  go_ret
  exact ⟨⟨g, cap, rfl, hW.out, by omega⟩, Bf.out⟩
set_option maxHeartbeats 3200000 in
set_option maxRecDepth 100000 in
theorem pLw_atS (s f t m dk dn dw ti rd off : Int) (O MW : List UInt8) (A : List UInt8) (w : World) (HO : Hid (∀ W, Below w.heap.size w W → Calls Tryz.prog 12 #[.int .i64 off] W fun e w' => e = .returned (.string (bs O)) ∧ Below W.heap.size W w')) (HM : Hid (∀ W, Below w.heap.size w W → Calls Tryz.prog 26 #[.int .i64 s] W fun e w' => e = .returned (.string (bs MW)) ∧ Below W.heap.size W w')) :
    Calls Tryz.prog 13 #[.agg #[.int .i64 1, .int .i64 s, .int .i64 f, .int .i64 t, .int .i64 m, .int .i64 dk, .int .i64 dn, .int .i64 dw, .int .i64 ti, .int .i64 rd, .int .i64 off, .bool false, .string (bs A)]] w fun e w' => (∃ b c, e = .returned (.slice (some ⟨b, 0, none⟩) 5 c) ∧ Wds w' b [atW, MW, O, stdL, A] ∧ w.heap.size ≤ b) ∧ Below w.heap.size w w' := by
  obtain ⟨i1, hi, hz0, hz1, hz2⟩ := info_parts infoStr
  have Z0 := Lib.hid (heap_alloc_new w (.cells #[.int .i64 1, .int .i64 s, .int .i64 f, .int .i64 t, .int .i64 m, .int .i64 dk, .int .i64 dn, .int .i64 dw, .int .i64 ti, .int .i64 rd, .int .i64 off, .bool false, .string (bs A)] 41))
  have B0 := Lib.hid ((Below.refl _ w).alloc (Nat.le_refl _) (.cells #[.int .i64 1, .int .i64 s, .int .i64 f, .int .i64 t, .int .i64 m, .int .i64 dk, .int .i64 dn, .int .i64 dw, .int .i64 ti, .int .i64 rd, .int .i64 off, .bool false, .string (bs A)] 41))
  have hsz0 : (w.alloc (.cells #[.int .i64 1, .int .i64 s, .int .i64 f, .int .i64 t, .int .i64 m, .int .i64 dk, .int .i64 dn, .int .i64 dw, .int .i64 ti, .int .i64 rd, .int .i64 off, .bool false, .string (bs A)] 41)).heap.size = w.heap.size + 1 := by simp
  go_enter Tryz.func13, Tryz.ntmps13
  go_wp2_with fail
  obtain ⟨W0, hW0⟩ : ∃ W0, W0 = w.alloc (.cells #[.int .i64 1, .int .i64 s, .int .i64 f, .int .i64 t, .int .i64 m, .int .i64 dk, .int .i64 dn, .int .i64 dw, .int .i64 ti, .int .i64 rd, .int .i64 off, .bool false, .string (bs A)] 41) := ⟨_, rfl⟩
  rw [← hW0] at Z0 B0 hsz0 ⊢
  clear hW0
  have zl : w.heap.size < W0.heap.size := by omega
  have s0 : W0.cell? ⟨w.heap.size, 10, none⟩ = some (.int .i64 off) := cell_of_row _ _ _ _ _ _ Z0.out
  have s1 : W0.cell? ⟨w.heap.size, 12, none⟩ = some (.string (bs A)) := cell_of_row _ _ _ _ _ _ Z0.out
  have Bd : Below w.heap.size w W0.drew := B0.out.drew
  refine region_plan (S := fun w2 => w2.cell? ⟨w.heap.size, 10, none⟩ = some (.int .i64 off) ∧ w2.cell? ⟨w.heap.size, 12, none⟩ = some (.string (bs A))) [(0, true), (1, true), (2, true), (4, true), (5, true), (6, true), (7, true), (3, false), (8, false), (9, true)] (by as_aux_lemma => kernel_rfl) (by as_aux_lemma => kernel_rfl) (by as_aux_lemma => kernel_rfl) (by as_aux_lemma => kernel_rfl) ⟨by rw [World.cell?_drew]; exact s0, by rw [World.cell?_drew]; exact s1⟩ ?_
  refine plan_yes (v := ?va0) (by simp only [List.getElem?_toArray, List.getElem?_cons_zero, List.getElem?_cons_succ]; exact rfl) (Or.inl ⟨by as_aux_lemma => rfl, ?hya0⟩) ?resta0
  case hya0 => (intro w2 hSw; (try dsimp only at hSw); obtain ⟨r0, r1⟩ := hSw; go_simp; try with_reducible rfl)
  try simp only [Act.put, List.setIfInBounds_toArray, List.set_cons_zero, List.set_cons_succ]
  refine plan_yes (v := ?va1) (by simp only [List.getElem?_toArray, List.getElem?_cons_zero, List.getElem?_cons_succ]; exact rfl) (Or.inl ⟨by as_aux_lemma => rfl, ?hya1⟩) ?resta1
  case hya1 => (intro w2 hSw; (try dsimp only at hSw); obtain ⟨r0, r1⟩ := hSw; go_simp; try with_reducible rfl)
  try simp only [Act.put, List.setIfInBounds_toArray, List.set_cons_zero, List.set_cons_succ]
  refine plan_yes (v := ?va2) (by simp only [List.getElem?_toArray, List.getElem?_cons_zero, List.getElem?_cons_succ]; exact rfl) (Or.inl ⟨by as_aux_lemma => rfl, ?hya2⟩) ?resta2
  case hya2 => (intro w2 hSw; (try dsimp only at hSw); obtain ⟨r0, r1⟩ := hSw; go_simp; try with_reducible rfl)
  try simp only [Act.put, List.setIfInBounds_toArray, List.set_cons_zero, List.set_cons_succ]
  refine plan_yes (v := ?va4) (by simp only [List.getElem?_toArray, List.getElem?_cons_zero, List.getElem?_cons_succ]; exact rfl) (Or.inl ⟨by as_aux_lemma => rfl, ?hya4⟩) ?resta4
  case hya4 => (intro w2 hSw; (try dsimp only at hSw); obtain ⟨r0, r1⟩ := hSw; go_simp; try with_reducible rfl)
  try simp only [Act.put, List.setIfInBounds_toArray, List.set_cons_zero, List.set_cons_succ]
  refine plan_yes (v := ?va5) (by simp only [List.getElem?_toArray, List.getElem?_cons_zero, List.getElem?_cons_succ]; exact rfl) (Or.inl ⟨by as_aux_lemma => rfl, ?hya5⟩) ?resta5
  case hya5 => (intro w2 hSw; (try dsimp only at hSw); obtain ⟨r0, r1⟩ := hSw; go_simp; try with_reducible rfl)
  try simp only [Act.put, List.setIfInBounds_toArray, List.set_cons_zero, List.set_cons_succ]
  refine plan_yes (v := ?va6) (by simp only [List.getElem?_toArray, List.getElem?_cons_zero, List.getElem?_cons_succ]; exact rfl) (Or.inl ⟨by as_aux_lemma => rfl, ?hya6⟩) ?resta6
  case hya6 => (intro w2 hSw; (try dsimp only at hSw); obtain ⟨r0, r1⟩ := hSw; go_simp; try with_reducible rfl)
  try simp only [Act.put, List.setIfInBounds_toArray, List.set_cons_zero, List.set_cons_succ]
  refine plan_yes (v := ?va7) (by simp only [List.getElem?_toArray, List.getElem?_cons_zero, List.getElem?_cons_succ]; exact rfl) (Or.inl ⟨by as_aux_lemma => rfl, ?hya7⟩) ?resta7
  case hya7 => (intro w2 hSw; (try dsimp only at hSw); obtain ⟨r0, r1⟩ := hSw; go_simp; try with_reducible rfl)
  try simp only [Act.put, List.setIfInBounds_toArray, List.set_cons_zero, List.set_cons_succ]
  refine plan_calls (by simp only [List.getElem?_toArray, List.getElem?_cons_zero, List.getElem?_cons_succ]; exact rfl) (by as_aux_lemma => rfl) (fun K hK => ?_)
  go_simp
  refine (HO.out _ Bd).mono ?_
  rintro e w5 ⟨rfl, hb5⟩
  have Z5 := row_call hb5 Z0.out
  have B5 := Lib.hid (Bd.trans (hb5.mono Bd.size))
  replace zl := lt_of_heap Z5
  replace s0 : w5.cell? ⟨w.heap.size, 10, none⟩ = some (.int .i64 off) := cell_of_row _ _ _ _ _ _ Z5
  replace s1 : w5.cell? ⟨w.heap.size, 12, none⟩ = some (.string (bs A)) := cell_of_row _ _ _ _ _ _ Z5
  refine hK.out _ _ ⟨s0, s1⟩ ?_
  clear hK K hb5
  try simp only [Act.put, List.setIfInBounds_toArray, List.set_cons_zero, List.set_cons_succ]
  refine plan_calls (by simp only [List.getElem?_toArray, List.getElem?_cons_zero, List.getElem?_cons_succ]; exact rfl) (by as_aux_lemma => rfl) (fun K hK => ?_)
  go_simp
  have Z6 := Lib.hid (row_alloc Z5 (.cells #[.string (bs O), .string ⟨#[115, 116, 100]⟩, .string (bs A)] 9))
  have L6 := Lib.hid (heap_alloc_new w5 (.cells #[.string (bs O), .string ⟨#[115, 116, 100]⟩, .string (bs A)] 9))
  have B6 := Lib.hid (B5.out.alloc B5.out.size (.cells #[.string (bs O), .string ⟨#[115, 116, 100]⟩, .string (bs A)] 9))
  have z6 : (w5.alloc (.cells #[.string (bs O), .string ⟨#[115, 116, 100]⟩, .string (bs A)] 9)).heap.size = w5.heap.size + 1 := by simp
  refine hK.out _ _ ⟨cell_of_row _ _ _ _ _ _ Z6.out, cell_of_row _ _ _ _ _ _ Z6.out⟩ ?_
  clear hK K s0 s1
  try simp only [Act.put, List.setIfInBounds_toArray, List.set_cons_zero, List.set_cons_succ]
  refine plan_yes (v := ?va9) (by simp only [List.getElem?_toArray, List.getElem?_cons_zero, List.getElem?_cons_succ]; exact rfl) (Or.inl ⟨by as_aux_lemma => rfl, ?hya9⟩) ?resta9
  case hya9 => (intro w2 hSw; (try dsimp only at hSw); obtain ⟨r0, r1⟩ := hSw; go_simp; try with_reducible rfl)
  try simp only [Act.put, List.setIfInBounds_toArray, List.set_cons_zero, List.set_cons_succ]
  refine plan_done (NoPanic.normal ?_)
  obtain ⟨W1, hW1⟩ : ∃ W1, W1 = w5.alloc (.cells #[.string (bs O), .string ⟨#[115, 116, 100]⟩, .string (bs A)] 9) := ⟨_, rfl⟩
  rw [← hW1] at Z6 L6 B6 z6 ⊢
  clear hW1
  have hne : w.heap.size ≠ w5.heap.size := Nat.ne_of_lt zl
  have hl5 : w.heap.size ≤ w5.heap.size := Nat.le_of_lt zl
  replace Z5 := Lib.hid Z5
  clear zl
  have k0 : W1.cell? ⟨w.heap.size, 0, none⟩ = some (.int .i64 1) := cell_of_row _ _ _ _ _ _ Z6.out
  have k1 : W1.cell? ⟨w.heap.size, 1, none⟩ = some (.int .i64 s) := cell_of_row _ _ _ _ _ _ Z6.out
  go_simp
  go_wp2_with fail
  refine (HM.out _ B6.out).mono ?_
  rintro e w7 ⟨rfl, hb7⟩
  have L7 := row_call hb7 L6.out
  have B7 := Lib.hid (B6.out.trans (hb7.mono B6.out.size))
  have O8 := World.ownsRow_lit (e := 9) (base := w7.heap.size) (size := 1) w7 #[.string ⟨#[97, 116]⟩, .string (bs MW)] 2 (Nat.le_refl _) (by decide) (by rfl)
  have L8 := row_alloc L7 (.cells #[.string ⟨#[97, 116]⟩, .string (bs MW)] 9)
  have B8 := Lib.hid (B7.out.alloc B7.out.size (.cells #[.string ⟨#[97, 116]⟩, .string (bs MW)] 9))
  have z8 := lt_of_heap L7
  have hz9 := hb7.size
  replace L7 := Lib.hid L7
  clear hb7 k0 k1
  go_wp2_with (first
    | (at_builtin
       refine wpList_append_lies _ rfl (.tmp 23) (.tmp 24) 45 rfl w7.heap.size 9 i1 (.string ⟨#[]⟩) 1 16 Tryz.underlying45 hi hz0 hz1 hz2 rfl (by decide) _ _ _ rfl O8 ⟨w5.heap.size, 0, none⟩ 3 3 [.string (bs O), .string ⟨#[115, 116, 100]⟩, .string (bs A)] rfl rfl (World.news_of_block (cs := #[.string (bs O), .string ⟨#[115, 116, 100]⟩, .string (bs A)]) L8) (by intro u hu; simp at hu; rcases hu with rfl | rfl | rfl <;> rfl) (by decide) (by decide) (by decide) (by simp) _ rfl ?_
       intro g cap w3 hown1 hgrow hat hlt1)
    | fail)
  have Bf : Hid (Below w.heap.size w w3) := Lib.hid (B8.out.grown hgrow B8.out.size (fun k hk => by have := (O8.lt k hk).1; omega))
  have hg := (hown1.lt g rfl).1
  have hW : Hid (Wds w3 g [atW, MW, O, stdL, A]) := Lib.hid (by
    rcases hown1.2 with ⟨h', _⟩ | ⟨g', cap', cur, h', _, hgh, _, _, _, htake⟩
    · simp at h'
    · simp only [Value.slice.injEq, Option.some.injEq, Addr.mk.injEq, and_true, true_and] at h'
      obtain ⟨rfl, rfl⟩ := h'
      refine ⟨cur, _, hgh, fun q hq => ?_⟩
      have e1 : cur[q]? = (cur.toList.take 5)[q]? := by
        have hq5 : q < 5 := hq
        rw [List.getElem?_take, if_pos hq5]
        simp
      have e2 : cur.toList.take 5 = [.string ⟨#[97, 116]⟩, .string (bs MW), .string (bs O), .string ⟨#[115, 116, 100]⟩, .string (bs A)] := htake
      rw [e1, e2, ← lit_of #[97, 116] atW rfl, ← lit_of #[115, 116, 100] stdL rfl]
      match q, hq with
      | 0, _ => rfl
      | 1, _ => rfl
      | 2, _ => rfl
      | 3, _ => rfl
      | 4, _ => rfl)
  clear hown1 hgrow hat
  go_wp2
  go_ret
  exact ⟨⟨g, cap, rfl, hW.out, by omega⟩, Bf.out⟩
set_option maxHeartbeats 3200000 in
set_option maxRecDepth 100000 in
theorem pLw_ruD (s f t dk dn dw ti rd off : Int) (O FW EW MN DW TW1 RW : List UInt8) (j : Nat) (hj : j < 12) (A : List UInt8) (w : World) (HO : Hid (∀ W, Below w.heap.size w W → Calls Tryz.prog 12 #[.int .i64 off] W fun e w' => e = .returned (.string (bs O)) ∧ Below W.heap.size W w')) (HI : Hid (∀ W, Below w.heap.size w W → Calls Tryz.prog 27 #[.int .i64 f] W fun e w' => e = .returned (.string (bs FW)) ∧ Below W.heap.size W w')) (HE : Hid (∀ W, Below w.heap.size w W → Calls Tryz.prog 28 #[.agg #[.int .i64 2, .int .i64 s, .int .i64 f, .int .i64 t, .int .i64 ((j : Int) + 1), .int .i64 dk, .int .i64 dn, .int .i64 dw, .int .i64 ti, .int .i64 rd, .int .i64 off, .bool true, .string (bs A)]] W fun e w' => e = .returned (.string (bs EW)) ∧ Below W.heap.size W w')) (HD : Hid (∀ W, Below w.heap.size w W → Calls Tryz.prog 29 #[.agg #[.int .i64 dk, .int .i64 dn, .int .i64 dw]] W fun e w' => e = .returned (.string (bs DW)) ∧ Below W.heap.size W w')) (HT : Hid (∀ W, Below w.heap.size w W → Calls Tryz.prog 30 #[.int .i64 ti] W fun e w' => e = .returned (.string (bs TW1)) ∧ Below W.heap.size W w')) (HR : Hid (∀ W, Below w.heap.size w W → Calls Tryz.prog 12 #[.int .i64 rd] W fun e w' => e = .returned (.string (bs RW)) ∧ Below W.heap.size W w')) (hg : 0 < w.heap.size) (hgc : w.cell? ⟨0, j, none⟩ = some (.string (bs MN))) :
    Calls Tryz.prog 13 #[.agg #[.int .i64 2, .int .i64 s, .int .i64 f, .int .i64 t, .int .i64 ((j : Int) + 1), .int .i64 dk, .int .i64 dn, .int .i64 dw, .int .i64 ti, .int .i64 rd, .int .i64 off, .bool true, .string (bs A)]] w fun e w' => (∃ b c, e = .returned (.slice (some ⟨b, 0, none⟩) 10 c) ∧ Wds w' b [rulW, FW, EW, MN, DW, TW1, RW, O, dstL, A] ∧ w.heap.size ≤ b) ∧ Below w.heap.size w w' := by
  obtain ⟨i1, hi, hz0, hz1, hz2⟩ := info_parts infoStr
  have Z0 := Lib.hid (heap_alloc_new w (.cells #[.int .i64 2, .int .i64 s, .int .i64 f, .int .i64 t, .int .i64 ((j : Int) + 1), .int .i64 dk, .int .i64 dn, .int .i64 dw, .int .i64 ti, .int .i64 rd, .int .i64 off, .bool true, .string (bs A)] 41))
  have B0 := Lib.hid ((Below.refl _ w).alloc (Nat.le_refl _) (.cells #[.int .i64 2, .int .i64 s, .int .i64 f, .int .i64 t, .int .i64 ((j : Int) + 1), .int .i64 dk, .int .i64 dn, .int .i64 dw, .int .i64 ti, .int .i64 rd, .int .i64 off, .bool true, .string (bs A)] 41))
  have hsz0 : (w.alloc (.cells #[.int .i64 2, .int .i64 s, .int .i64 f, .int .i64 t, .int .i64 ((j : Int) + 1), .int .i64 dk, .int .i64 dn, .int .i64 dw, .int .i64 ti, .int .i64 rd, .int .i64 off, .bool true, .string (bs A)] 41)).heap.size = w.heap.size + 1 := by simp
  have hix : IntKind.i64.wrap ((j : Int) + 1 - 1) = (j : Int) := by rw [IntKind.wrap_i64]; omega
  have hiy : IntKind.i64.wrap (j : Int) = (j : Int) := by rw [IntKind.wrap_i64]; omega
  have hj0 : (0 : Int) ≤ (j : Int) ∧ (j : Int) < 12 := by omega
  go_enter Tryz.func13, Tryz.ntmps13
  go_wp2_with fail
  obtain ⟨W0, hW0⟩ : ∃ W0, W0 = w.alloc (.cells #[.int .i64 2, .int .i64 s, .int .i64 f, .int .i64 t, .int .i64 ((j : Int) + 1), .int .i64 dk, .int .i64 dn, .int .i64 dw, .int .i64 ti, .int .i64 rd, .int .i64 off, .bool true, .string (bs A)] 41) := ⟨_, rfl⟩
  rw [← hW0] at Z0 B0 hsz0 ⊢
  clear hW0
  have zl : w.heap.size < W0.heap.size := by omega
  have s0 : W0.cell? ⟨w.heap.size, 10, none⟩ = some (.int .i64 off) := cell_of_row _ _ _ _ _ _ Z0.out
  have s1 : W0.cell? ⟨w.heap.size, 12, none⟩ = some (.string (bs A)) := cell_of_row _ _ _ _ _ _ Z0.out
  have Bd : Below w.heap.size w W0.drew := B0.out.drew
  refine region_plan (S := fun w2 => w2.cell? ⟨w.heap.size, 10, none⟩ = some (.int .i64 off) ∧ w2.cell? ⟨w.heap.size, 12, none⟩ = some (.string (bs A))) [(0, true), (1, true), (2, true), (4, true), (5, true), (6, true), (7, true), (3, false), (8, false), (9, true)] (by as_aux_lemma => kernel_rfl) (by as_aux_lemma => kernel_rfl) (by as_aux_lemma => kernel_rfl) (by as_aux_lemma => kernel_rfl) ⟨by rw [World.cell?_drew]; exact s0, by rw [World.cell?_drew]; exact s1⟩ ?_
  refine plan_yes (v := ?va0) (by simp only [List.getElem?_toArray, List.getElem?_cons_zero, List.getElem?_cons_succ]; exact rfl) (Or.inl ⟨by as_aux_lemma => rfl, ?hya0⟩) ?resta0
  case hya0 => (intro w2 hSw; (try dsimp only at hSw); obtain ⟨r0, r1⟩ := hSw; go_simp; try with_reducible rfl)
  try simp only [Act.put, List.setIfInBounds_toArray, List.set_cons_zero, List.set_cons_succ]
  refine plan_yes (v := ?va1) (by simp only [List.getElem?_toArray, List.getElem?_cons_zero, List.getElem?_cons_succ]; exact rfl) (Or.inl ⟨by as_aux_lemma => rfl, ?hya1⟩) ?resta1
  case hya1 => (intro w2 hSw; (try dsimp only at hSw); obtain ⟨r0, r1⟩ := hSw; go_simp; try with_reducible rfl)
  try simp only [Act.put, List.setIfInBounds_toArray, List.set_cons_zero, List.set_cons_succ]
  refine plan_yes (v := ?va2) (by simp only [List.getElem?_toArray, List.getElem?_cons_zero, List.getElem?_cons_succ]; exact rfl) (Or.inl ⟨by as_aux_lemma => rfl, ?hya2⟩) ?resta2
  case hya2 => (intro w2 hSw; (try dsimp only at hSw); obtain ⟨r0, r1⟩ := hSw; go_simp; try with_reducible rfl)
  try simp only [Act.put, List.setIfInBounds_toArray, List.set_cons_zero, List.set_cons_succ]
  refine plan_yes (v := ?va4) (by simp only [List.getElem?_toArray, List.getElem?_cons_zero, List.getElem?_cons_succ]; exact rfl) (Or.inl ⟨by as_aux_lemma => rfl, ?hya4⟩) ?resta4
  case hya4 => (intro w2 hSw; (try dsimp only at hSw); obtain ⟨r0, r1⟩ := hSw; go_simp; try with_reducible rfl)
  try simp only [Act.put, List.setIfInBounds_toArray, List.set_cons_zero, List.set_cons_succ]
  refine plan_yes (v := ?va5) (by simp only [List.getElem?_toArray, List.getElem?_cons_zero, List.getElem?_cons_succ]; exact rfl) (Or.inl ⟨by as_aux_lemma => rfl, ?hya5⟩) ?resta5
  case hya5 => (intro w2 hSw; (try dsimp only at hSw); obtain ⟨r0, r1⟩ := hSw; go_simp; try with_reducible rfl)
  try simp only [Act.put, List.setIfInBounds_toArray, List.set_cons_zero, List.set_cons_succ]
  refine plan_yes (v := ?va6) (by simp only [List.getElem?_toArray, List.getElem?_cons_zero, List.getElem?_cons_succ]; exact rfl) (Or.inl ⟨by as_aux_lemma => rfl, ?hya6⟩) ?resta6
  case hya6 => (intro w2 hSw; (try dsimp only at hSw); obtain ⟨r0, r1⟩ := hSw; go_simp; try with_reducible rfl)
  try simp only [Act.put, List.setIfInBounds_toArray, List.set_cons_zero, List.set_cons_succ]
  refine plan_yes (v := ?va7) (by simp only [List.getElem?_toArray, List.getElem?_cons_zero, List.getElem?_cons_succ]; exact rfl) (Or.inl ⟨by as_aux_lemma => rfl, ?hya7⟩) ?resta7
  case hya7 => (intro w2 hSw; (try dsimp only at hSw); obtain ⟨r0, r1⟩ := hSw; go_simp; try with_reducible rfl)
  try simp only [Act.put, List.setIfInBounds_toArray, List.set_cons_zero, List.set_cons_succ]
  refine plan_calls (by simp only [List.getElem?_toArray, List.getElem?_cons_zero, List.getElem?_cons_succ]; exact rfl) (by as_aux_lemma => rfl) (fun K hK => ?_)
  go_simp
  refine (HO.out _ Bd).mono ?_
  rintro e w5 ⟨rfl, hb5⟩
  have Z5 := row_call hb5 Z0.out
  have B5 := Lib.hid (Bd.trans (hb5.mono Bd.size))
  replace zl := lt_of_heap Z5
  replace s0 : w5.cell? ⟨w.heap.size, 10, none⟩ = some (.int .i64 off) := cell_of_row _ _ _ _ _ _ Z5
  replace s1 : w5.cell? ⟨w.heap.size, 12, none⟩ = some (.string (bs A)) := cell_of_row _ _ _ _ _ _ Z5
  refine hK.out _ _ ⟨s0, s1⟩ ?_
  clear hK K hb5
  try simp only [Act.put, List.setIfInBounds_toArray, List.set_cons_zero, List.set_cons_succ]
  refine plan_calls (by simp only [List.getElem?_toArray, List.getElem?_cons_zero, List.getElem?_cons_succ]; exact rfl) (by as_aux_lemma => rfl) (fun K hK => ?_)
  go_simp
  have Z6 := Lib.hid (row_alloc Z5 (.cells #[.string (bs O), .string ⟨#[100, 115, 116]⟩, .string (bs A)] 9))
  have L6 := Lib.hid (heap_alloc_new w5 (.cells #[.string (bs O), .string ⟨#[100, 115, 116]⟩, .string (bs A)] 9))
  have B6 := Lib.hid (B5.out.alloc B5.out.size (.cells #[.string (bs O), .string ⟨#[100, 115, 116]⟩, .string (bs A)] 9))
  have z6 : (w5.alloc (.cells #[.string (bs O), .string ⟨#[100, 115, 116]⟩, .string (bs A)] 9)).heap.size = w5.heap.size + 1 := by simp
  refine hK.out _ _ ⟨cell_of_row _ _ _ _ _ _ Z6.out, cell_of_row _ _ _ _ _ _ Z6.out⟩ ?_
  clear hK K s0 s1
  try simp only [Act.put, List.setIfInBounds_toArray, List.set_cons_zero, List.set_cons_succ]
  refine plan_yes (v := ?va9) (by simp only [List.getElem?_toArray, List.getElem?_cons_zero, List.getElem?_cons_succ]; exact rfl) (Or.inl ⟨by as_aux_lemma => rfl, ?hya9⟩) ?resta9
  case hya9 => (intro w2 hSw; (try dsimp only at hSw); obtain ⟨r0, r1⟩ := hSw; go_simp; try with_reducible rfl)
  try simp only [Act.put, List.setIfInBounds_toArray, List.set_cons_zero, List.set_cons_succ]
  refine plan_done (NoPanic.normal ?_)
  obtain ⟨W1, hW1⟩ : ∃ W1, W1 = w5.alloc (.cells #[.string (bs O), .string ⟨#[100, 115, 116]⟩, .string (bs A)] 9) := ⟨_, rfl⟩
  rw [← hW1] at Z6 L6 B6 z6 ⊢
  clear hW1
  have hne : w.heap.size ≠ w5.heap.size := Nat.ne_of_lt zl
  have hl5 : w.heap.size ≤ w5.heap.size := Nat.le_of_lt zl
  replace Z5 := Lib.hid Z5
  clear zl
  have k0 : W1.cell? ⟨w.heap.size, 0, none⟩ = some (.int .i64 2) := cell_of_row _ _ _ _ _ _ Z6.out
  go_simp
  go_wp2_with fail
  clear k0
  have Zx := Z6.out
  have gx : W1.cell? ⟨0, j, none⟩ = some (.string (bs MN)) := (B6.out.cell (p := ⟨0, j, none⟩) hg).trans hgc
  have Bd : Below w.heap.size w W1.drew := B6.out.drew
  refine region_plan (S := fun w2 => w2.cell? ⟨w.heap.size, 0, none⟩ = some (.int .i64 2) ∧ w2.cell? ⟨w.heap.size, 1, none⟩ = some (.int .i64 s) ∧ w2.cell? ⟨w.heap.size, 2, none⟩ = some (.int .i64 f) ∧ w2.cell? ⟨w.heap.size, 3, none⟩ = some (.int .i64 t) ∧ w2.cell? ⟨w.heap.size, 4, none⟩ = some (.int .i64 ((j : Int) + 1)) ∧ w2.cell? ⟨w.heap.size, 5, none⟩ = some (.int .i64 dk) ∧ w2.cell? ⟨w.heap.size, 6, none⟩ = some (.int .i64 dn) ∧ w2.cell? ⟨w.heap.size, 7, none⟩ = some (.int .i64 dw) ∧ w2.cell? ⟨w.heap.size, 8, none⟩ = some (.int .i64 ti) ∧ w2.cell? ⟨w.heap.size, 9, none⟩ = some (.int .i64 rd) ∧ w2.cell? ⟨w.heap.size, 10, none⟩ = some (.int .i64 off) ∧ w2.cell? ⟨w.heap.size, 11, none⟩ = some (.bool true) ∧ w2.cell? ⟨w.heap.size, 12, none⟩ = some (.string (bs A)) ∧ w2.cell? ⟨0, j, none⟩ = some (.string (bs MN))) [(0, true), (1, true), (3, true), (5, true), (6, true), (7, true), (8, true), (9, true), (10, true), (11, true), (13, true), (14, true), (16, true), (17, true), (20, true), (2, false), (4, false), (12, false), (15, false), (18, false), (19, false), (21, false), (22, true)] (by as_aux_lemma => kernel_rfl) (by as_aux_lemma => kernel_rfl) (by as_aux_lemma => kernel_rfl) (by as_aux_lemma => kernel_rfl) (by (repeat rw [World.cell?_drew]); exact ⟨cell_of_row _ _ _ _ _ _ Zx, cell_of_row _ _ _ _ _ _ Zx, cell_of_row _ _ _ _ _ _ Zx, cell_of_row _ _ _ _ _ _ Zx, cell_of_row _ _ _ _ _ _ Zx, cell_of_row _ _ _ _ _ _ Zx, cell_of_row _ _ _ _ _ _ Zx, cell_of_row _ _ _ _ _ _ Zx, cell_of_row _ _ _ _ _ _ Zx, cell_of_row _ _ _ _ _ _ Zx, cell_of_row _ _ _ _ _ _ Zx, cell_of_row _ _ _ _ _ _ Zx, cell_of_row _ _ _ _ _ _ Zx, gx⟩) ?_
  refine plan_yes (v := ?vb0) (by simp only [List.getElem?_toArray, List.getElem?_cons_zero, List.getElem?_cons_succ]; exact rfl) (Or.inl ⟨by as_aux_lemma => rfl, ?hyb0⟩) ?restb0
  case hyb0 => (intro w2 hSw; (try dsimp only at hSw); obtain ⟨r0, r1, r2, r3, r4, r5, r6, r7, r8, r9, r10, r11, r12, r13⟩ := hSw; go_simp; try with_reducible rfl)
  try simp only [Act.put, List.setIfInBounds_toArray, List.set_cons_zero, List.set_cons_succ]
  refine plan_yes (v := ?vb1) (by simp only [List.getElem?_toArray, List.getElem?_cons_zero, List.getElem?_cons_succ]; exact rfl) (Or.inl ⟨by as_aux_lemma => rfl, ?hyb1⟩) ?restb1
  case hyb1 => (intro w2 hSw; (try dsimp only at hSw); obtain ⟨r0, r1, r2, r3, r4, r5, r6, r7, r8, r9, r10, r11, r12, r13⟩ := hSw; go_simp; try with_reducible rfl)
  try simp only [Act.put, List.setIfInBounds_toArray, List.set_cons_zero, List.set_cons_succ]
  refine plan_yes (v := ?vb3) (by simp only [List.getElem?_toArray, List.getElem?_cons_zero, List.getElem?_cons_succ]; exact rfl) (Or.inl ⟨by as_aux_lemma => rfl, ?hyb3⟩) ?restb3
  case hyb3 => (intro w2 hSw; (try dsimp only at hSw); obtain ⟨r0, r1, r2, r3, r4, r5, r6, r7, r8, r9, r10, r11, r12, r13⟩ := hSw; go_simp; try with_reducible rfl)
  try simp only [Act.put, List.setIfInBounds_toArray, List.set_cons_zero, List.set_cons_succ]
  refine plan_yes (v := ?vb5) (by simp only [List.getElem?_toArray, List.getElem?_cons_zero, List.getElem?_cons_succ]; exact rfl) (Or.inl ⟨by as_aux_lemma => rfl, ?hyb5⟩) ?restb5
  case hyb5 => (intro w2 hSw; (try dsimp only at hSw); obtain ⟨r0, r1, r2, r3, r4, r5, r6, r7, r8, r9, r10, r11, r12, r13⟩ := hSw; go_simp; try with_reducible rfl)
  try simp only [Act.put, List.setIfInBounds_toArray, List.set_cons_zero, List.set_cons_succ]
  refine plan_yes (v := ?vb6) (by simp only [List.getElem?_toArray, List.getElem?_cons_zero, List.getElem?_cons_succ]; exact rfl) (Or.inl ⟨by as_aux_lemma => rfl, ?hyb6⟩) ?restb6
  case hyb6 => (intro w2 hSw; (try dsimp only at hSw); obtain ⟨r0, r1, r2, r3, r4, r5, r6, r7, r8, r9, r10, r11, r12, r13⟩ := hSw; go_simp; try with_reducible rfl)
  try simp only [Act.put, List.setIfInBounds_toArray, List.set_cons_zero, List.set_cons_succ]
  refine plan_yes (v := ?vb7) (by simp only [List.getElem?_toArray, List.getElem?_cons_zero, List.getElem?_cons_succ]; exact rfl) (Or.inl ⟨by as_aux_lemma => rfl, ?hyb7⟩) ?restb7
  case hyb7 => (intro w2 hSw; (try dsimp only at hSw); obtain ⟨r0, r1, r2, r3, r4, r5, r6, r7, r8, r9, r10, r11, r12, r13⟩ := hSw; go_simp; try with_reducible rfl)
  try simp only [Act.put, List.setIfInBounds_toArray, List.set_cons_zero, List.set_cons_succ]
  refine plan_yes (v := ?vb8) (by simp only [List.getElem?_toArray, List.getElem?_cons_zero, List.getElem?_cons_succ]; exact rfl) (Or.inl ⟨by as_aux_lemma => rfl, ?hyb8⟩) ?restb8
  case hyb8 => (intro w2 hSw; (try dsimp only at hSw); obtain ⟨r0, r1, r2, r3, r4, r5, r6, r7, r8, r9, r10, r11, r12, r13⟩ := hSw; go_simp; try with_reducible rfl)
  try simp only [Act.put, List.setIfInBounds_toArray, List.set_cons_zero, List.set_cons_succ]
  refine plan_yes (v := ?vb9) (by simp only [List.getElem?_toArray, List.getElem?_cons_zero, List.getElem?_cons_succ]; exact rfl) (Or.inl ⟨by as_aux_lemma => rfl, ?hyb9⟩) ?restb9
  case hyb9 => (intro w2 hSw; (try dsimp only at hSw); obtain ⟨r0, r1, r2, r3, r4, r5, r6, r7, r8, r9, r10, r11, r12, r13⟩ := hSw; go_simp; try with_reducible rfl)
  try simp only [Act.put, List.setIfInBounds_toArray, List.set_cons_zero, List.set_cons_succ]
  refine plan_yes (v := ?vb10) (by simp only [List.getElem?_toArray, List.getElem?_cons_zero, List.getElem?_cons_succ]; exact rfl) (Or.inl ⟨by as_aux_lemma => rfl, ?hyb10⟩) ?restb10
  case hyb10 => (intro w2 hSw; (try dsimp only at hSw); obtain ⟨r0, r1, r2, r3, r4, r5, r6, r7, r8, r9, r10, r11, r12, r13⟩ := hSw; go_simp; try with_reducible rfl)
  try simp only [Act.put, List.setIfInBounds_toArray, List.set_cons_zero, List.set_cons_succ]
  refine plan_yes (v := ?vb11) (by simp only [List.getElem?_toArray, List.getElem?_cons_zero, List.getElem?_cons_succ]; exact rfl) (Or.inl ⟨by as_aux_lemma => rfl, ?hyb11⟩) ?restb11
  case hyb11 => (intro w2 hSw; (try dsimp only at hSw); obtain ⟨r0, r1, r2, r3, r4, r5, r6, r7, r8, r9, r10, r11, r12, r13⟩ := hSw; go_simp; try with_reducible rfl)
  try simp only [Act.put, List.setIfInBounds_toArray, List.set_cons_zero, List.set_cons_succ]
  refine plan_yes (v := ?vb13) (by simp only [List.getElem?_toArray, List.getElem?_cons_zero, List.getElem?_cons_succ]; exact rfl) (Or.inl ⟨by as_aux_lemma => rfl, ?hyb13⟩) ?restb13
  case hyb13 => (intro w2 hSw; (try dsimp only at hSw); obtain ⟨r0, r1, r2, r3, r4, r5, r6, r7, r8, r9, r10, r11, r12, r13⟩ := hSw; go_simp; try with_reducible rfl)
  try simp only [Act.put, List.setIfInBounds_toArray, List.set_cons_zero, List.set_cons_succ]
  refine plan_yes (v := ?vb14) (by simp only [List.getElem?_toArray, List.getElem?_cons_zero, List.getElem?_cons_succ]; exact rfl) (Or.inl ⟨by as_aux_lemma => rfl, ?hyb14⟩) ?restb14
  case hyb14 => (intro w2 hSw; (try dsimp only at hSw); obtain ⟨r0, r1, r2, r3, r4, r5, r6, r7, r8, r9, r10, r11, r12, r13⟩ := hSw; go_simp; try with_reducible rfl)
  try simp only [Act.put, List.setIfInBounds_toArray, List.set_cons_zero, List.set_cons_succ]
  refine plan_yes (v := ?vb16) (by simp only [List.getElem?_toArray, List.getElem?_cons_zero, List.getElem?_cons_succ]; exact rfl) (Or.inl ⟨by as_aux_lemma => rfl, ?hyb16⟩) ?restb16
  case hyb16 => (intro w2 hSw; (try dsimp only at hSw); obtain ⟨r0, r1, r2, r3, r4, r5, r6, r7, r8, r9, r10, r11, r12, r13⟩ := hSw; go_simp; try with_reducible rfl)
  try simp only [Act.put, List.setIfInBounds_toArray, List.set_cons_zero, List.set_cons_succ]
  refine plan_yes (v := ?vb17) (by simp only [List.getElem?_toArray, List.getElem?_cons_zero, List.getElem?_cons_succ]; exact rfl) (Or.inl ⟨by as_aux_lemma => rfl, ?hyb17⟩) ?restb17
  case hyb17 => (intro w2 hSw; (try dsimp only at hSw); obtain ⟨r0, r1, r2, r3, r4, r5, r6, r7, r8, r9, r10, r11, r12, r13⟩ := hSw; go_simp; try with_reducible rfl)
  try simp only [Act.put, List.setIfInBounds_toArray, List.set_cons_zero, List.set_cons_succ]
  refine plan_yes (v := ?vb20) (by simp only [List.getElem?_toArray, List.getElem?_cons_zero, List.getElem?_cons_succ]; exact rfl) (Or.inl ⟨by as_aux_lemma => rfl, ?hyb20⟩) ?restb20
  case hyb20 => (intro w2 hSw; (try dsimp only at hSw); obtain ⟨r0, r1, r2, r3, r4, r5, r6, r7, r8, r9, r10, r11, r12, r13⟩ := hSw; go_simp; try with_reducible rfl)
  try simp only [Act.put, List.setIfInBounds_toArray, List.set_cons_zero, List.set_cons_succ]
  refine plan_calls (by simp only [List.getElem?_toArray, List.getElem?_cons_zero, List.getElem?_cons_succ]; exact rfl) (by as_aux_lemma => rfl) (fun K hK => ?_)
  go_simp
  refine (HI.out _ Bd).mono ?_
  rintro e u0 ⟨rfl, hb5⟩
  replace Zx := row_call hb5 Zx
  replace L6 := Lib.hid (row_call hb5 L6.out)
  replace Bd := Bd.trans (hb5.mono Bd.size)
  replace gx : u0.cell? ⟨0, j, none⟩ = some (.string (bs MN)) := (Bd.cell (p := ⟨0, j, none⟩) hg).trans hgc
  refine hK.out _ _ ⟨cell_of_row _ _ _ _ _ _ Zx, cell_of_row _ _ _ _ _ _ Zx, cell_of_row _ _ _ _ _ _ Zx, cell_of_row _ _ _ _ _ _ Zx, cell_of_row _ _ _ _ _ _ Zx, cell_of_row _ _ _ _ _ _ Zx, cell_of_row _ _ _ _ _ _ Zx, cell_of_row _ _ _ _ _ _ Zx, cell_of_row _ _ _ _ _ _ Zx, cell_of_row _ _ _ _ _ _ Zx, cell_of_row _ _ _ _ _ _ Zx, cell_of_row _ _ _ _ _ _ Zx, cell_of_row _ _ _ _ _ _ Zx, gx⟩ ?_
  clear hK K hb5
  try simp only [Act.put, List.setIfInBounds_toArray, List.set_cons_zero, List.set_cons_succ]
  refine plan_calls (by simp only [List.getElem?_toArray, List.getElem?_cons_zero, List.getElem?_cons_succ]; exact rfl) (by as_aux_lemma => rfl) (fun K hK => ?_)
  go_simp
  refine (HE.out _ Bd).mono ?_
  rintro e u1 ⟨rfl, hb5⟩
  replace Zx := row_call hb5 Zx
  replace L6 := Lib.hid (row_call hb5 L6.out)
  replace Bd := Bd.trans (hb5.mono Bd.size)
  replace gx : u1.cell? ⟨0, j, none⟩ = some (.string (bs MN)) := (Bd.cell (p := ⟨0, j, none⟩) hg).trans hgc
  refine hK.out _ _ ⟨cell_of_row _ _ _ _ _ _ Zx, cell_of_row _ _ _ _ _ _ Zx, cell_of_row _ _ _ _ _ _ Zx, cell_of_row _ _ _ _ _ _ Zx, cell_of_row _ _ _ _ _ _ Zx, cell_of_row _ _ _ _ _ _ Zx, cell_of_row _ _ _ _ _ _ Zx, cell_of_row _ _ _ _ _ _ Zx, cell_of_row _ _ _ _ _ _ Zx, cell_of_row _ _ _ _ _ _ Zx, cell_of_row _ _ _ _ _ _ Zx, cell_of_row _ _ _ _ _ _ Zx, cell_of_row _ _ _ _ _ _ Zx, gx⟩ ?_
  clear hK K hb5
  try simp only [Act.put, List.setIfInBounds_toArray, List.set_cons_zero, List.set_cons_succ]
  refine plan_calls (by simp only [List.getElem?_toArray, List.getElem?_cons_zero, List.getElem?_cons_succ]; exact rfl) (by as_aux_lemma => rfl) (fun K hK => ?_)
  go_simp
  refine (HD.out _ Bd).mono ?_
  rintro e u2 ⟨rfl, hb5⟩
  replace Zx := row_call hb5 Zx
  replace L6 := Lib.hid (row_call hb5 L6.out)
  replace Bd := Bd.trans (hb5.mono Bd.size)
  replace gx : u2.cell? ⟨0, j, none⟩ = some (.string (bs MN)) := (Bd.cell (p := ⟨0, j, none⟩) hg).trans hgc
  refine hK.out _ _ ⟨cell_of_row _ _ _ _ _ _ Zx, cell_of_row _ _ _ _ _ _ Zx, cell_of_row _ _ _ _ _ _ Zx, cell_of_row _ _ _ _ _ _ Zx, cell_of_row _ _ _ _ _ _ Zx, cell_of_row _ _ _ _ _ _ Zx, cell_of_row _ _ _ _ _ _ Zx, cell_of_row _ _ _ _ _ _ Zx, cell_of_row _ _ _ _ _ _ Zx, cell_of_row _ _ _ _ _ _ Zx, cell_of_row _ _ _ _ _ _ Zx, cell_of_row _ _ _ _ _ _ Zx, cell_of_row _ _ _ _ _ _ Zx, gx⟩ ?_
  clear hK K hb5
  try simp only [Act.put, List.setIfInBounds_toArray, List.set_cons_zero, List.set_cons_succ]
  refine plan_calls (by simp only [List.getElem?_toArray, List.getElem?_cons_zero, List.getElem?_cons_succ]; exact rfl) (by as_aux_lemma => rfl) (fun K hK => ?_)
  go_simp
  refine (HT.out _ Bd).mono ?_
  rintro e u3 ⟨rfl, hb5⟩
  replace Zx := row_call hb5 Zx
  replace L6 := Lib.hid (row_call hb5 L6.out)
  replace Bd := Bd.trans (hb5.mono Bd.size)
  replace gx : u3.cell? ⟨0, j, none⟩ = some (.string (bs MN)) := (Bd.cell (p := ⟨0, j, none⟩) hg).trans hgc
  refine hK.out _ _ ⟨cell_of_row _ _ _ _ _ _ Zx, cell_of_row _ _ _ _ _ _ Zx, cell_of_row _ _ _ _ _ _ Zx, cell_of_row _ _ _ _ _ _ Zx, cell_of_row _ _ _ _ _ _ Zx, cell_of_row _ _ _ _ _ _ Zx, cell_of_row _ _ _ _ _ _ Zx, cell_of_row _ _ _ _ _ _ Zx, cell_of_row _ _ _ _ _ _ Zx, cell_of_row _ _ _ _ _ _ Zx, cell_of_row _ _ _ _ _ _ Zx, cell_of_row _ _ _ _ _ _ Zx, cell_of_row _ _ _ _ _ _ Zx, gx⟩ ?_
  clear hK K hb5
  try simp only [Act.put, List.setIfInBounds_toArray, List.set_cons_zero, List.set_cons_succ]
  refine plan_calls (by simp only [List.getElem?_toArray, List.getElem?_cons_zero, List.getElem?_cons_succ]; exact rfl) (by as_aux_lemma => rfl) (fun K hK => ?_)
  go_simp
  refine (HR.out _ Bd).mono ?_
  rintro e u4 ⟨rfl, hb5⟩
  replace Zx := row_call hb5 Zx
  replace L6 := Lib.hid (row_call hb5 L6.out)
  replace Bd := Bd.trans (hb5.mono Bd.size)
  replace gx : u4.cell? ⟨0, j, none⟩ = some (.string (bs MN)) := (Bd.cell (p := ⟨0, j, none⟩) hg).trans hgc
  refine hK.out _ _ ⟨cell_of_row _ _ _ _ _ _ Zx, cell_of_row _ _ _ _ _ _ Zx, cell_of_row _ _ _ _ _ _ Zx, cell_of_row _ _ _ _ _ _ Zx, cell_of_row _ _ _ _ _ _ Zx, cell_of_row _ _ _ _ _ _ Zx, cell_of_row _ _ _ _ _ _ Zx, cell_of_row _ _ _ _ _ _ Zx, cell_of_row _ _ _ _ _ _ Zx, cell_of_row _ _ _ _ _ _ Zx, cell_of_row _ _ _ _ _ _ Zx, cell_of_row _ _ _ _ _ _ Zx, cell_of_row _ _ _ _ _ _ Zx, gx⟩ ?_
  clear hK K hb5
  try simp only [Act.put, List.setIfInBounds_toArray, List.set_cons_zero, List.set_cons_succ]
  refine plan_calls (by simp only [List.getElem?_toArray, List.getElem?_cons_zero, List.getElem?_cons_succ]; exact rfl) (by as_aux_lemma => rfl) (fun K hK => ?_)
  go_simp
  have O8 := World.ownsRow_lit (e := 9) (base := u4.heap.size) (size := 1) u4 #[.string ⟨#[114, 117, 108, 101]⟩, .string (bs FW), .string (bs EW), .string (bs MN), .string (bs DW), .string (bs TW1), .string (bs RW)] 7 (Nat.le_refl _) (by decide) (by rfl)
  have L8 := row_alloc L6.out (.cells #[.string ⟨#[114, 117, 108, 101]⟩, .string (bs FW), .string (bs EW), .string (bs MN), .string (bs DW), .string (bs TW1), .string (bs RW)] 9)
  have z8 := lt_of_heap L6.out
  have zz := lt_of_heap Zx
  have hu4 := Bd.size
  have hneZ : w.heap.size ≠ u4.heap.size := Nat.ne_of_lt zz
  replace Zx := row_alloc Zx (.cells #[.string ⟨#[114, 117, 108, 101]⟩, .string (bs FW), .string (bs EW), .string (bs MN), .string (bs DW), .string (bs TW1), .string (bs RW)] 9)
  replace Bd := Bd.alloc Bd.size (.cells #[.string ⟨#[114, 117, 108, 101]⟩, .string (bs FW), .string (bs EW), .string (bs MN), .string (bs DW), .string (bs TW1), .string (bs RW)] 9)
  replace gx := (Bd.cell (p := ⟨0, j, none⟩) hg).trans hgc
  refine hK.out _ _ ⟨cell_of_row _ _ _ _ _ _ Zx, cell_of_row _ _ _ _ _ _ Zx, cell_of_row _ _ _ _ _ _ Zx, cell_of_row _ _ _ _ _ _ Zx, cell_of_row _ _ _ _ _ _ Zx, cell_of_row _ _ _ _ _ _ Zx, cell_of_row _ _ _ _ _ _ Zx, cell_of_row _ _ _ _ _ _ Zx, cell_of_row _ _ _ _ _ _ Zx, cell_of_row _ _ _ _ _ _ Zx, cell_of_row _ _ _ _ _ _ Zx, cell_of_row _ _ _ _ _ _ Zx, cell_of_row _ _ _ _ _ _ Zx, gx⟩ ?_
  clear hK K
  try simp only [Act.put, List.setIfInBounds_toArray, List.set_cons_zero, List.set_cons_succ]
  refine plan_calls (by simp only [List.getElem?_toArray, List.getElem?_cons_zero, List.getElem?_cons_succ]; exact rfl) (by as_aux_lemma => rfl) (fun K hK => ?_)
  refine wp_append_lies _ _ _ _ (by rfl) u4.heap.size 9 i1 (.string ⟨#[]⟩) 1 16 Tryz.underlying45 hi hz0 hz1 hz2 rfl (by decide) _ _ _ (by rfl) O8 ⟨w5.heap.size, 0, none⟩ 3 3 [.string (bs O), .string ⟨#[100, 115, 116]⟩, .string (bs A)] (by rfl) (by rfl) (World.news_of_block (cs := #[.string (bs O), .string ⟨#[100, 115, 116]⟩, .string (bs A)]) L8) (by intro u hu; simp at hu; rcases hu with rfl | rfl | rfl <;> rfl) (by decide) (by decide) (by decide) (by simp) _ rfl ?_
  intro g cap w3 hown1 hgrow hat hlt1
  replace Zx := (hgrow.block _ (lt_of_heap Zx) (by intro e; exact hneZ (Option.some.inj e))).trans Zx
  have Bf : Hid (Below w.heap.size w w3) := Lib.hid (Bd.grown hgrow Bd.size (fun k hk => by have := (O8.lt k hk).1; omega))
  replace gx := (Bf.out.cell (p := ⟨0, j, none⟩) hg).trans hgc
  refine hK.out _ _ ⟨cell_of_row _ _ _ _ _ _ Zx, cell_of_row _ _ _ _ _ _ Zx, cell_of_row _ _ _ _ _ _ Zx, cell_of_row _ _ _ _ _ _ Zx, cell_of_row _ _ _ _ _ _ Zx, cell_of_row _ _ _ _ _ _ Zx, cell_of_row _ _ _ _ _ _ Zx, cell_of_row _ _ _ _ _ _ Zx, cell_of_row _ _ _ _ _ _ Zx, cell_of_row _ _ _ _ _ _ Zx, cell_of_row _ _ _ _ _ _ Zx, cell_of_row _ _ _ _ _ _ Zx, cell_of_row _ _ _ _ _ _ Zx, gx⟩ ?_
  clear hK K
  try simp only [Act.put, List.setIfInBounds_toArray, List.set_cons_zero, List.set_cons_succ]
  refine plan_yes (v := ?vb22) (by simp only [List.getElem?_toArray, List.getElem?_cons_zero, List.getElem?_cons_succ]; exact rfl) (Or.inl ⟨by as_aux_lemma => rfl, ?hyb22⟩) ?restb22
  case hyb22 => (intro w2 hSw; (try dsimp only at hSw); obtain ⟨r0, r1, r2, r3, r4, r5, r6, r7, r8, r9, r10, r11, r12, r13⟩ := hSw; go_simp; try with_reducible rfl)
  try simp only [Act.put, List.setIfInBounds_toArray, List.set_cons_zero, List.set_cons_succ]
  refine plan_done (NoPanic.normal ?_)
  have hg2 := (hown1.lt g rfl).1
  have hW : Hid (Wds w3 g [rulW, FW, EW, MN, DW, TW1, RW, O, dstL, A]) := Lib.hid (by
    rcases hown1.2 with ⟨h', _⟩ | ⟨g', cap', cur, h', _, hgh, _, _, _, htake⟩
    · simp at h'
    · simp only [Value.slice.injEq, Option.some.injEq, Addr.mk.injEq, and_true, true_and] at h'
      obtain ⟨rfl, rfl⟩ := h'
      refine ⟨cur, _, hgh, fun q hq => ?_⟩
      have e1 : cur[q]? = (cur.toList.take 10)[q]? := by
        have hq5 : q < 10 := hq
        rw [List.getElem?_take, if_pos hq5]
        simp
      have e2 : cur.toList.take 10 = [.string ⟨#[114, 117, 108, 101]⟩, .string (bs FW), .string (bs EW), .string (bs MN), .string (bs DW), .string (bs TW1), .string (bs RW), .string (bs O), .string ⟨#[100, 115, 116]⟩, .string (bs A)] := htake
      rw [e1, e2, ← lit_of #[114, 117, 108, 101] rulW rfl, ← lit_of #[100, 115, 116] dstL rfl]
      match q, hq with
      | 0, _ => rfl
      | 1, _ => rfl
      | 2, _ => rfl
      | 3, _ => rfl
      | 4, _ => rfl
      | 5, _ => rfl
      | 6, _ => rfl
      | 7, _ => rfl
      | 8, _ => rfl
      | 9, _ => rfl)
  clear hown1 hgrow hat Zx gx Bd L8 O8
  go_simp
  go_wp2
  go_ret
  exact ⟨⟨g, cap, rfl, hW.out, by omega⟩, Bf.out⟩
set_option maxHeartbeats 3200000 in
set_option maxRecDepth 100000 in
theorem pLw_ruS (s f t dk dn dw ti rd off : Int) (O FW EW MN DW TW1 RW : List UInt8) (j : Nat) (hj : j < 12) (A : List UInt8) (w : World) (HO : Hid (∀ W, Below w.heap.size w W → Calls Tryz.prog 12 #[.int .i64 off] W fun e w' => e = .returned (.string (bs O)) ∧ Below W.heap.size W w')) (HI : Hid (∀ W, Below w.heap.size w W → Calls Tryz.prog 27 #[.int .i64 f] W fun e w' => e = .returned (.string (bs FW)) ∧ Below W.heap.size W w')) (HE : Hid (∀ W, Below w.heap.size w W → Calls Tryz.prog 28 #[.agg #[.int .i64 2, .int .i64 s, .int .i64 f, .int .i64 t, .int .i64 ((j : Int) + 1), .int .i64 dk, .int .i64 dn, .int .i64 dw, .int .i64 ti, .int .i64 rd, .int .i64 off, .bool false, .string (bs A)]] W fun e w' => e = .returned (.string (bs EW)) ∧ Below W.heap.size W w')) (HD : Hid (∀ W, Below w.heap.size w W → Calls Tryz.prog 29 #[.agg #[.int .i64 dk, .int .i64 dn, .int .i64 dw]] W fun e w' => e = .returned (.string (bs DW)) ∧ Below W.heap.size W w')) (HT : Hid (∀ W, Below w.heap.size w W → Calls Tryz.prog 30 #[.int .i64 ti] W fun e w' => e = .returned (.string (bs TW1)) ∧ Below W.heap.size W w')) (HR : Hid (∀ W, Below w.heap.size w W → Calls Tryz.prog 12 #[.int .i64 rd] W fun e w' => e = .returned (.string (bs RW)) ∧ Below W.heap.size W w')) (hg : 0 < w.heap.size) (hgc : w.cell? ⟨0, j, none⟩ = some (.string (bs MN))) :
    Calls Tryz.prog 13 #[.agg #[.int .i64 2, .int .i64 s, .int .i64 f, .int .i64 t, .int .i64 ((j : Int) + 1), .int .i64 dk, .int .i64 dn, .int .i64 dw, .int .i64 ti, .int .i64 rd, .int .i64 off, .bool false, .string (bs A)]] w fun e w' => (∃ b c, e = .returned (.slice (some ⟨b, 0, none⟩) 10 c) ∧ Wds w' b [rulW, FW, EW, MN, DW, TW1, RW, O, stdL, A] ∧ w.heap.size ≤ b) ∧ Below w.heap.size w w' := by
  obtain ⟨i1, hi, hz0, hz1, hz2⟩ := info_parts infoStr
  have Z0 := Lib.hid (heap_alloc_new w (.cells #[.int .i64 2, .int .i64 s, .int .i64 f, .int .i64 t, .int .i64 ((j : Int) + 1), .int .i64 dk, .int .i64 dn, .int .i64 dw, .int .i64 ti, .int .i64 rd, .int .i64 off, .bool false, .string (bs A)] 41))
  have B0 := Lib.hid ((Below.refl _ w).alloc (Nat.le_refl _) (.cells #[.int .i64 2, .int .i64 s, .int .i64 f, .int .i64 t, .int .i64 ((j : Int) + 1), .int .i64 dk, .int .i64 dn, .int .i64 dw, .int .i64 ti, .int .i64 rd, .int .i64 off, .bool false, .string (bs A)] 41))
  have hsz0 : (w.alloc (.cells #[.int .i64 2, .int .i64 s, .int .i64 f, .int .i64 t, .int .i64 ((j : Int) + 1), .int .i64 dk, .int .i64 dn, .int .i64 dw, .int .i64 ti, .int .i64 rd, .int .i64 off, .bool false, .string (bs A)] 41)).heap.size = w.heap.size + 1 := by simp
  have hix : IntKind.i64.wrap ((j : Int) + 1 - 1) = (j : Int) := by rw [IntKind.wrap_i64]; omega
  have hiy : IntKind.i64.wrap (j : Int) = (j : Int) := by rw [IntKind.wrap_i64]; omega
  have hj0 : (0 : Int) ≤ (j : Int) ∧ (j : Int) < 12 := by omega
  go_enter Tryz.func13, Tryz.ntmps13
  go_wp2_with fail
  obtain ⟨W0, hW0⟩ : ∃ W0, W0 = w.alloc (.cells #[.int .i64 2, .int .i64 s, .int .i64 f, .int .i64 t, .int .i64 ((j : Int) + 1), .int .i64 dk, .int .i64 dn, .int .i64 dw, .int .i64 ti, .int .i64 rd, .int .i64 off, .bool false, .string (bs A)] 41) := ⟨_, rfl⟩
  rw [← hW0] at Z0 B0 hsz0 ⊢
  clear hW0
  have zl : w.heap.size < W0.heap.size := by omega
  have s0 : W0.cell? ⟨w.heap.size, 10, none⟩ = some (.int .i64 off) := cell_of_row _ _ _ _ _ _ Z0.out
  have s1 : W0.cell? ⟨w.heap.size, 12, none⟩ = some (.string (bs A)) := cell_of_row _ _ _ _ _ _ Z0.out
  have Bd : Below w.heap.size w W0.drew := B0.out.drew
  refine region_plan (S := fun w2 => w2.cell? ⟨w.heap.size, 10, none⟩ = some (.int .i64 off) ∧ w2.cell? ⟨w.heap.size, 12, none⟩ = some (.string (bs A))) [(0, true), (1, true), (2, true), (4, true), (5, true), (6, true), (7, true), (3, false), (8, false), (9, true)] (by as_aux_lemma => kernel_rfl) (by as_aux_lemma => kernel_rfl) (by as_aux_lemma => kernel_rfl) (by as_aux_lemma => kernel_rfl) ⟨by rw [World.cell?_drew]; exact s0, by rw [World.cell?_drew]; exact s1⟩ ?_
  refine plan_yes (v := ?va0) (by simp only [List.getElem?_toArray, List.getElem?_cons_zero, List.getElem?_cons_succ]; exact rfl) (Or.inl ⟨by as_aux_lemma => rfl, ?hya0⟩) ?resta0
  case hya0 => (intro w2 hSw; (try dsimp only at hSw); obtain ⟨r0, r1⟩ := hSw; go_simp; try with_reducible rfl)
  try simp only [Act.put, List.setIfInBounds_toArray, List.set_cons_zero, List.set_cons_succ]
  refine plan_yes (v := ?va1) (by simp only [List.getElem?_toArray, List.getElem?_cons_zero, List.getElem?_cons_succ]; exact rfl) (Or.inl ⟨by as_aux_lemma => rfl, ?hya1⟩) ?resta1
  case hya1 => (intro w2 hSw; (try dsimp only at hSw); obtain ⟨r0, r1⟩ := hSw; go_simp; try with_reducible rfl)
  try simp only [Act.put, List.setIfInBounds_toArray, List.set_cons_zero, List.set_cons_succ]
  refine plan_yes (v := ?va2) (by simp only [List.getElem?_toArray, List.getElem?_cons_zero, List.getElem?_cons_succ]; exact rfl) (Or.inl ⟨by as_aux_lemma => rfl, ?hya2⟩) ?resta2
  case hya2 => (intro w2 hSw; (try dsimp only at hSw); obtain ⟨r0, r1⟩ := hSw; go_simp; try with_reducible rfl)
  try simp only [Act.put, List.setIfInBounds_toArray, List.set_cons_zero, List.set_cons_succ]
  refine plan_yes (v := ?va4) (by simp only [List.getElem?_toArray, List.getElem?_cons_zero, List.getElem?_cons_succ]; exact rfl) (Or.inl ⟨by as_aux_lemma => rfl, ?hya4⟩) ?resta4
  case hya4 => (intro w2 hSw; (try dsimp only at hSw); obtain ⟨r0, r1⟩ := hSw; go_simp; try with_reducible rfl)
  try simp only [Act.put, List.setIfInBounds_toArray, List.set_cons_zero, List.set_cons_succ]
  refine plan_yes (v := ?va5) (by simp only [List.getElem?_toArray, List.getElem?_cons_zero, List.getElem?_cons_succ]; exact rfl) (Or.inl ⟨by as_aux_lemma => rfl, ?hya5⟩) ?resta5
  case hya5 => (intro w2 hSw; (try dsimp only at hSw); obtain ⟨r0, r1⟩ := hSw; go_simp; try with_reducible rfl)
  try simp only [Act.put, List.setIfInBounds_toArray, List.set_cons_zero, List.set_cons_succ]
  refine plan_yes (v := ?va6) (by simp only [List.getElem?_toArray, List.getElem?_cons_zero, List.getElem?_cons_succ]; exact rfl) (Or.inl ⟨by as_aux_lemma => rfl, ?hya6⟩) ?resta6
  case hya6 => (intro w2 hSw; (try dsimp only at hSw); obtain ⟨r0, r1⟩ := hSw; go_simp; try with_reducible rfl)
  try simp only [Act.put, List.setIfInBounds_toArray, List.set_cons_zero, List.set_cons_succ]
  refine plan_yes (v := ?va7) (by simp only [List.getElem?_toArray, List.getElem?_cons_zero, List.getElem?_cons_succ]; exact rfl) (Or.inl ⟨by as_aux_lemma => rfl, ?hya7⟩) ?resta7
  case hya7 => (intro w2 hSw; (try dsimp only at hSw); obtain ⟨r0, r1⟩ := hSw; go_simp; try with_reducible rfl)
  try simp only [Act.put, List.setIfInBounds_toArray, List.set_cons_zero, List.set_cons_succ]
  refine plan_calls (by simp only [List.getElem?_toArray, List.getElem?_cons_zero, List.getElem?_cons_succ]; exact rfl) (by as_aux_lemma => rfl) (fun K hK => ?_)
  go_simp
  refine (HO.out _ Bd).mono ?_
  rintro e w5 ⟨rfl, hb5⟩
  have Z5 := row_call hb5 Z0.out
  have B5 := Lib.hid (Bd.trans (hb5.mono Bd.size))
  replace zl := lt_of_heap Z5
  replace s0 : w5.cell? ⟨w.heap.size, 10, none⟩ = some (.int .i64 off) := cell_of_row _ _ _ _ _ _ Z5
  replace s1 : w5.cell? ⟨w.heap.size, 12, none⟩ = some (.string (bs A)) := cell_of_row _ _ _ _ _ _ Z5
  refine hK.out _ _ ⟨s0, s1⟩ ?_
  clear hK K hb5
  try simp only [Act.put, List.setIfInBounds_toArray, List.set_cons_zero, List.set_cons_succ]
  refine plan_calls (by simp only [List.getElem?_toArray, List.getElem?_cons_zero, List.getElem?_cons_succ]; exact rfl) (by as_aux_lemma => rfl) (fun K hK => ?_)
  go_simp
  have Z6 := Lib.hid (row_alloc Z5 (.cells #[.string (bs O), .string ⟨#[115, 116, 100]⟩, .string (bs A)] 9))
  have L6 := Lib.hid (heap_alloc_new w5 (.cells #[.string (bs O), .string ⟨#[115, 116, 100]⟩, .string (bs A)] 9))
  have B6 := Lib.hid (B5.out.alloc B5.out.size (.cells #[.string (bs O), .string ⟨#[115, 116, 100]⟩, .string (bs A)] 9))
  have z6 : (w5.alloc (.cells #[.string (bs O), .string ⟨#[115, 116, 100]⟩, .string (bs A)] 9)).heap.size = w5.heap.size + 1 := by simp
  refine hK.out _ _ ⟨cell_of_row _ _ _ _ _ _ Z6.out, cell_of_row _ _ _ _ _ _ Z6.out⟩ ?_
  clear hK K s0 s1
  try simp only [Act.put, List.setIfInBounds_toArray, List.set_cons_zero, List.set_cons_succ]
  refine plan_yes (v := ?va9) (by simp only [List.getElem?_toArray, List.getElem?_cons_zero, List.getElem?_cons_succ]; exact rfl) (Or.inl ⟨by as_aux_lemma => rfl, ?hya9⟩) ?resta9
  case hya9 => (intro w2 hSw; (try dsimp only at hSw); obtain ⟨r0, r1⟩ := hSw; go_simp; try with_reducible rfl)
  try simp only [Act.put, List.setIfInBounds_toArray, List.set_cons_zero, List.set_cons_succ]
  refine plan_done (NoPanic.normal ?_)
  obtain ⟨W1, hW1⟩ : ∃ W1, W1 = w5.alloc (.cells #[.string (bs O), .string ⟨#[115, 116, 100]⟩, .string (bs A)] 9) := ⟨_, rfl⟩
  rw [← hW1] at Z6 L6 B6 z6 ⊢
  clear hW1
  have hne : w.heap.size ≠ w5.heap.size := Nat.ne_of_lt zl
  have hl5 : w.heap.size ≤ w5.heap.size := Nat.le_of_lt zl
  replace Z5 := Lib.hid Z5
  clear zl
  have k0 : W1.cell? ⟨w.heap.size, 0, none⟩ = some (.int .i64 2) := cell_of_row _ _ _ _ _ _ Z6.out
  go_simp
  go_wp2_with fail
  clear k0
  have Zx := Z6.out
  have gx : W1.cell? ⟨0, j, none⟩ = some (.string (bs MN)) := (B6.out.cell (p := ⟨0, j, none⟩) hg).trans hgc
  have Bd : Below w.heap.size w W1.drew := B6.out.drew
  refine region_plan (S := fun w2 => w2.cell? ⟨w.heap.size, 0, none⟩ = some (.int .i64 2) ∧ w2.cell? ⟨w.heap.size, 1, none⟩ = some (.int .i64 s) ∧ w2.cell? ⟨w.heap.size, 2, none⟩ = some (.int .i64 f) ∧ w2.cell? ⟨w.heap.size, 3, none⟩ = some (.int .i64 t) ∧ w2.cell? ⟨w.heap.size, 4, none⟩ = some (.int .i64 ((j : Int) + 1)) ∧ w2.cell? ⟨w.heap.size, 5, none⟩ = some (.int .i64 dk) ∧ w2.cell? ⟨w.heap.size, 6, none⟩ = some (.int .i64 dn) ∧ w2.cell? ⟨w.heap.size, 7, none⟩ = some (.int .i64 dw) ∧ w2.cell? ⟨w.heap.size, 8, none⟩ = some (.int .i64 ti) ∧ w2.cell? ⟨w.heap.size, 9, none⟩ = some (.int .i64 rd) ∧ w2.cell? ⟨w.heap.size, 10, none⟩ = some (.int .i64 off) ∧ w2.cell? ⟨w.heap.size, 11, none⟩ = some (.bool false) ∧ w2.cell? ⟨w.heap.size, 12, none⟩ = some (.string (bs A)) ∧ w2.cell? ⟨0, j, none⟩ = some (.string (bs MN))) [(0, true), (1, true), (3, true), (5, true), (6, true), (7, true), (8, true), (9, true), (10, true), (11, true), (13, true), (14, true), (16, true), (17, true), (20, true), (2, false), (4, false), (12, false), (15, false), (18, false), (19, false), (21, false), (22, true)] (by as_aux_lemma => kernel_rfl) (by as_aux_lemma => kernel_rfl) (by as_aux_lemma => kernel_rfl) (by as_aux_lemma => kernel_rfl) (by (repeat rw [World.cell?_drew]); exact ⟨cell_of_row _ _ _ _ _ _ Zx, cell_of_row _ _ _ _ _ _ Zx, cell_of_row _ _ _ _ _ _ Zx, cell_of_row _ _ _ _ _ _ Zx, cell_of_row _ _ _ _ _ _ Zx, cell_of_row _ _ _ _ _ _ Zx, cell_of_row _ _ _ _ _ _ Zx, cell_of_row _ _ _ _ _ _ Zx, cell_of_row _ _ _ _ _ _ Zx, cell_of_row _ _ _ _ _ _ Zx, cell_of_row _ _ _ _ _ _ Zx, cell_of_row _ _ _ _ _ _ Zx, cell_of_row _ _ _ _ _ _ Zx, gx⟩) ?_
  refine plan_yes (v := ?vb0) (by simp only [List.getElem?_toArray, List.getElem?_cons_zero, List.getElem?_cons_succ]; exact rfl) (Or.inl ⟨by as_aux_lemma => rfl, ?hyb0⟩) ?restb0
  case hyb0 => (intro w2 hSw; (try dsimp only at hSw); obtain ⟨r0, r1, r2, r3, r4, r5, r6, r7, r8, r9, r10, r11, r12, r13⟩ := hSw; go_simp; try with_reducible rfl)
  try simp only [Act.put, List.setIfInBounds_toArray, List.set_cons_zero, List.set_cons_succ]
  refine plan_yes (v := ?vb1) (by simp only [List.getElem?_toArray, List.getElem?_cons_zero, List.getElem?_cons_succ]; exact rfl) (Or.inl ⟨by as_aux_lemma => rfl, ?hyb1⟩) ?restb1
  case hyb1 => (intro w2 hSw; (try dsimp only at hSw); obtain ⟨r0, r1, r2, r3, r4, r5, r6, r7, r8, r9, r10, r11, r12, r13⟩ := hSw; go_simp; try with_reducible rfl)
  try simp only [Act.put, List.setIfInBounds_toArray, List.set_cons_zero, List.set_cons_succ]
  refine plan_yes (v := ?vb3) (by simp only [List.getElem?_toArray, List.getElem?_cons_zero, List.getElem?_cons_succ]; exact rfl) (Or.inl ⟨by as_aux_lemma => rfl, ?hyb3⟩) ?restb3
  case hyb3 => (intro w2 hSw; (try dsimp only at hSw); obtain ⟨r0, r1, r2, r3, r4, r5, r6, r7, r8, r9, r10, r11, r12, r13⟩ := hSw; go_simp; try with_reducible rfl)
  try simp only [Act.put, List.setIfInBounds_toArray, List.set_cons_zero, List.set_cons_succ]
  refine plan_yes (v := ?vb5) (by simp only [List.getElem?_toArray, List.getElem?_cons_zero, List.getElem?_cons_succ]; exact rfl) (Or.inl ⟨by as_aux_lemma => rfl, ?hyb5⟩) ?restb5
  case hyb5 => (intro w2 hSw; (try dsimp only at hSw); obtain ⟨r0, r1, r2, r3, r4, r5, r6, r7, r8, r9, r10, r11, r12, r13⟩ := hSw; go_simp; try with_reducible rfl)
  try simp only [Act.put, List.setIfInBounds_toArray, List.set_cons_zero, List.set_cons_succ]
  refine plan_yes (v := ?vb6) (by simp only [List.getElem?_toArray, List.getElem?_cons_zero, List.getElem?_cons_succ]; exact rfl) (Or.inl ⟨by as_aux_lemma => rfl, ?hyb6⟩) ?restb6
  case hyb6 => (intro w2 hSw; (try dsimp only at hSw); obtain ⟨r0, r1, r2, r3, r4, r5, r6, r7, r8, r9, r10, r11, r12, r13⟩ := hSw; go_simp; try with_reducible rfl)
  try simp only [Act.put, List.setIfInBounds_toArray, List.set_cons_zero, List.set_cons_succ]
  refine plan_yes (v := ?vb7) (by simp only [List.getElem?_toArray, List.getElem?_cons_zero, List.getElem?_cons_succ]; exact rfl) (Or.inl ⟨by as_aux_lemma => rfl, ?hyb7⟩) ?restb7
  case hyb7 => (intro w2 hSw; (try dsimp only at hSw); obtain ⟨r0, r1, r2, r3, r4, r5, r6, r7, r8, r9, r10, r11, r12, r13⟩ := hSw; go_simp; try with_reducible rfl)
  try simp only [Act.put, List.setIfInBounds_toArray, List.set_cons_zero, List.set_cons_succ]
  refine plan_yes (v := ?vb8) (by simp only [List.getElem?_toArray, List.getElem?_cons_zero, List.getElem?_cons_succ]; exact rfl) (Or.inl ⟨by as_aux_lemma => rfl, ?hyb8⟩) ?restb8
  case hyb8 => (intro w2 hSw; (try dsimp only at hSw); obtain ⟨r0, r1, r2, r3, r4, r5, r6, r7, r8, r9, r10, r11, r12, r13⟩ := hSw; go_simp; try with_reducible rfl)
  try simp only [Act.put, List.setIfInBounds_toArray, List.set_cons_zero, List.set_cons_succ]
  refine plan_yes (v := ?vb9) (by simp only [List.getElem?_toArray, List.getElem?_cons_zero, List.getElem?_cons_succ]; exact rfl) (Or.inl ⟨by as_aux_lemma => rfl, ?hyb9⟩) ?restb9
  case hyb9 => (intro w2 hSw; (try dsimp only at hSw); obtain ⟨r0, r1, r2, r3, r4, r5, r6, r7, r8, r9, r10, r11, r12, r13⟩ := hSw; go_simp; try with_reducible rfl)
  try simp only [Act.put, List.setIfInBounds_toArray, List.set_cons_zero, List.set_cons_succ]
  refine plan_yes (v := ?vb10) (by simp only [List.getElem?_toArray, List.getElem?_cons_zero, List.getElem?_cons_succ]; exact rfl) (Or.inl ⟨by as_aux_lemma => rfl, ?hyb10⟩) ?restb10
  case hyb10 => (intro w2 hSw; (try dsimp only at hSw); obtain ⟨r0, r1, r2, r3, r4, r5, r6, r7, r8, r9, r10, r11, r12, r13⟩ := hSw; go_simp; try with_reducible rfl)
  try simp only [Act.put, List.setIfInBounds_toArray, List.set_cons_zero, List.set_cons_succ]
  refine plan_yes (v := ?vb11) (by simp only [List.getElem?_toArray, List.getElem?_cons_zero, List.getElem?_cons_succ]; exact rfl) (Or.inl ⟨by as_aux_lemma => rfl, ?hyb11⟩) ?restb11
  case hyb11 => (intro w2 hSw; (try dsimp only at hSw); obtain ⟨r0, r1, r2, r3, r4, r5, r6, r7, r8, r9, r10, r11, r12, r13⟩ := hSw; go_simp; try with_reducible rfl)
  try simp only [Act.put, List.setIfInBounds_toArray, List.set_cons_zero, List.set_cons_succ]
  refine plan_yes (v := ?vb13) (by simp only [List.getElem?_toArray, List.getElem?_cons_zero, List.getElem?_cons_succ]; exact rfl) (Or.inl ⟨by as_aux_lemma => rfl, ?hyb13⟩) ?restb13
  case hyb13 => (intro w2 hSw; (try dsimp only at hSw); obtain ⟨r0, r1, r2, r3, r4, r5, r6, r7, r8, r9, r10, r11, r12, r13⟩ := hSw; go_simp; try with_reducible rfl)
  try simp only [Act.put, List.setIfInBounds_toArray, List.set_cons_zero, List.set_cons_succ]
  refine plan_yes (v := ?vb14) (by simp only [List.getElem?_toArray, List.getElem?_cons_zero, List.getElem?_cons_succ]; exact rfl) (Or.inl ⟨by as_aux_lemma => rfl, ?hyb14⟩) ?restb14
  case hyb14 => (intro w2 hSw; (try dsimp only at hSw); obtain ⟨r0, r1, r2, r3, r4, r5, r6, r7, r8, r9, r10, r11, r12, r13⟩ := hSw; go_simp; try with_reducible rfl)
  try simp only [Act.put, List.setIfInBounds_toArray, List.set_cons_zero, List.set_cons_succ]
  refine plan_yes (v := ?vb16) (by simp only [List.getElem?_toArray, List.getElem?_cons_zero, List.getElem?_cons_succ]; exact rfl) (Or.inl ⟨by as_aux_lemma => rfl, ?hyb16⟩) ?restb16
  case hyb16 => (intro w2 hSw; (try dsimp only at hSw); obtain ⟨r0, r1, r2, r3, r4, r5, r6, r7, r8, r9, r10, r11, r12, r13⟩ := hSw; go_simp; try with_reducible rfl)
  try simp only [Act.put, List.setIfInBounds_toArray, List.set_cons_zero, List.set_cons_succ]
  refine plan_yes (v := ?vb17) (by simp only [List.getElem?_toArray, List.getElem?_cons_zero, List.getElem?_cons_succ]; exact rfl) (Or.inl ⟨by as_aux_lemma => rfl, ?hyb17⟩) ?restb17
  case hyb17 => (intro w2 hSw; (try dsimp only at hSw); obtain ⟨r0, r1, r2, r3, r4, r5, r6, r7, r8, r9, r10, r11, r12, r13⟩ := hSw; go_simp; try with_reducible rfl)
  try simp only [Act.put, List.setIfInBounds_toArray, List.set_cons_zero, List.set_cons_succ]
  refine plan_yes (v := ?vb20) (by simp only [List.getElem?_toArray, List.getElem?_cons_zero, List.getElem?_cons_succ]; exact rfl) (Or.inl ⟨by as_aux_lemma => rfl, ?hyb20⟩) ?restb20
  case hyb20 => (intro w2 hSw; (try dsimp only at hSw); obtain ⟨r0, r1, r2, r3, r4, r5, r6, r7, r8, r9, r10, r11, r12, r13⟩ := hSw; go_simp; try with_reducible rfl)
  try simp only [Act.put, List.setIfInBounds_toArray, List.set_cons_zero, List.set_cons_succ]
  refine plan_calls (by simp only [List.getElem?_toArray, List.getElem?_cons_zero, List.getElem?_cons_succ]; exact rfl) (by as_aux_lemma => rfl) (fun K hK => ?_)
  go_simp
  refine (HI.out _ Bd).mono ?_
  rintro e u0 ⟨rfl, hb5⟩
  replace Zx := row_call hb5 Zx
  replace L6 := Lib.hid (row_call hb5 L6.out)
  replace Bd := Bd.trans (hb5.mono Bd.size)
  replace gx : u0.cell? ⟨0, j, none⟩ = some (.string (bs MN)) := (Bd.cell (p := ⟨0, j, none⟩) hg).trans hgc
  refine hK.out _ _ ⟨cell_of_row _ _ _ _ _ _ Zx, cell_of_row _ _ _ _ _ _ Zx, cell_of_row _ _ _ _ _ _ Zx, cell_of_row _ _ _ _ _ _ Zx, cell_of_row _ _ _ _ _ _ Zx, cell_of_row _ _ _ _ _ _ Zx, cell_of_row _ _ _ _ _ _ Zx, cell_of_row _ _ _ _ _ _ Zx, cell_of_row _ _ _ _ _ _ Zx, cell_of_row _ _ _ _ _ _ Zx, cell_of_row _ _ _ _ _ _ Zx, cell_of_row _ _ _ _ _ _ Zx, cell_of_row _ _ _ _ _ _ Zx, gx⟩ ?_
  clear hK K hb5
  try simp only [Act.put, List.setIfInBounds_toArray, List.set_cons_zero, List.set_cons_succ]
  refine plan_calls (by simp only [List.getElem?_toArray, List.getElem?_cons_zero, List.getElem?_cons_succ]; exact rfl) (by as_aux_lemma => rfl) (fun K hK => ?_)
  go_simp
  refine (HE.out _ Bd).mono ?_
  rintro e u1 ⟨rfl, hb5⟩
  replace Zx := row_call hb5 Zx
  replace L6 := Lib.hid (row_call hb5 L6.out)
  replace Bd := Bd.trans (hb5.mono Bd.size)
  replace gx : u1.cell? ⟨0, j, none⟩ = some (.string (bs MN)) := (Bd.cell (p := ⟨0, j, none⟩) hg).trans hgc
  refine hK.out _ _ ⟨cell_of_row _ _ _ _ _ _ Zx, cell_of_row _ _ _ _ _ _ Zx, cell_of_row _ _ _ _ _ _ Zx, cell_of_row _ _ _ _ _ _ Zx, cell_of_row _ _ _ _ _ _ Zx, cell_of_row _ _ _ _ _ _ Zx, cell_of_row _ _ _ _ _ _ Zx, cell_of_row _ _ _ _ _ _ Zx, cell_of_row _ _ _ _ _ _ Zx, cell_of_row _ _ _ _ _ _ Zx, cell_of_row _ _ _ _ _ _ Zx, cell_of_row _ _ _ _ _ _ Zx, cell_of_row _ _ _ _ _ _ Zx, gx⟩ ?_
  clear hK K hb5
  try simp only [Act.put, List.setIfInBounds_toArray, List.set_cons_zero, List.set_cons_succ]
  refine plan_calls (by simp only [List.getElem?_toArray, List.getElem?_cons_zero, List.getElem?_cons_succ]; exact rfl) (by as_aux_lemma => rfl) (fun K hK => ?_)
  go_simp
  refine (HD.out _ Bd).mono ?_
  rintro e u2 ⟨rfl, hb5⟩
  replace Zx := row_call hb5 Zx
  replace L6 := Lib.hid (row_call hb5 L6.out)
  replace Bd := Bd.trans (hb5.mono Bd.size)
  replace gx : u2.cell? ⟨0, j, none⟩ = some (.string (bs MN)) := (Bd.cell (p := ⟨0, j, none⟩) hg).trans hgc
  refine hK.out _ _ ⟨cell_of_row _ _ _ _ _ _ Zx, cell_of_row _ _ _ _ _ _ Zx, cell_of_row _ _ _ _ _ _ Zx, cell_of_row _ _ _ _ _ _ Zx, cell_of_row _ _ _ _ _ _ Zx, cell_of_row _ _ _ _ _ _ Zx, cell_of_row _ _ _ _ _ _ Zx, cell_of_row _ _ _ _ _ _ Zx, cell_of_row _ _ _ _ _ _ Zx, cell_of_row _ _ _ _ _ _ Zx, cell_of_row _ _ _ _ _ _ Zx, cell_of_row _ _ _ _ _ _ Zx, cell_of_row _ _ _ _ _ _ Zx, gx⟩ ?_
  clear hK K hb5
  try simp only [Act.put, List.setIfInBounds_toArray, List.set_cons_zero, List.set_cons_succ]
  refine plan_calls (by simp only [List.getElem?_toArray, List.getElem?_cons_zero, List.getElem?_cons_succ]; exact rfl) (by as_aux_lemma => rfl) (fun K hK => ?_)
  go_simp
  refine (HT.out _ Bd).mono ?_
  rintro e u3 ⟨rfl, hb5⟩
  replace Zx := row_call hb5 Zx
  replace L6 := Lib.hid (row_call hb5 L6.out)
  replace Bd := Bd.trans (hb5.mono Bd.size)
  replace gx : u3.cell? ⟨0, j, none⟩ = some (.string (bs MN)) := (Bd.cell (p := ⟨0, j, none⟩) hg).trans hgc
  refine hK.out _ _ ⟨cell_of_row _ _ _ _ _ _ Zx, cell_of_row _ _ _ _ _ _ Zx, cell_of_row _ _ _ _ _ _ Zx, cell_of_row _ _ _ _ _ _ Zx, cell_of_row _ _ _ _ _ _ Zx, cell_of_row _ _ _ _ _ _ Zx, cell_of_row _ _ _ _ _ _ Zx, cell_of_row _ _ _ _ _ _ Zx, cell_of_row _ _ _ _ _ _ Zx, cell_of_row _ _ _ _ _ _ Zx, cell_of_row _ _ _ _ _ _ Zx, cell_of_row _ _ _ _ _ _ Zx, cell_of_row _ _ _ _ _ _ Zx, gx⟩ ?_
  clear hK K hb5
  try simp only [Act.put, List.setIfInBounds_toArray, List.set_cons_zero, List.set_cons_succ]
  refine plan_calls (by simp only [List.getElem?_toArray, List.getElem?_cons_zero, List.getElem?_cons_succ]; exact rfl) (by as_aux_lemma => rfl) (fun K hK => ?_)
  go_simp
  refine (HR.out _ Bd).mono ?_
  rintro e u4 ⟨rfl, hb5⟩
  replace Zx := row_call hb5 Zx
  replace L6 := Lib.hid (row_call hb5 L6.out)
  replace Bd := Bd.trans (hb5.mono Bd.size)
  replace gx : u4.cell? ⟨0, j, none⟩ = some (.string (bs MN)) := (Bd.cell (p := ⟨0, j, none⟩) hg).trans hgc
  refine hK.out _ _ ⟨cell_of_row _ _ _ _ _ _ Zx, cell_of_row _ _ _ _ _ _ Zx, cell_of_row _ _ _ _ _ _ Zx, cell_of_row _ _ _ _ _ _ Zx, cell_of_row _ _ _ _ _ _ Zx, cell_of_row _ _ _ _ _ _ Zx, cell_of_row _ _ _ _ _ _ Zx, cell_of_row _ _ _ _ _ _ Zx, cell_of_row _ _ _ _ _ _ Zx, cell_of_row _ _ _ _ _ _ Zx, cell_of_row _ _ _ _ _ _ Zx, cell_of_row _ _ _ _ _ _ Zx, cell_of_row _ _ _ _ _ _ Zx, gx⟩ ?_
  clear hK K hb5
  try simp only [Act.put, List.setIfInBounds_toArray, List.set_cons_zero, List.set_cons_succ]
  refine plan_calls (by simp only [List.getElem?_toArray, List.getElem?_cons_zero, List.getElem?_cons_succ]; exact rfl) (by as_aux_lemma => rfl) (fun K hK => ?_)
  go_simp
  have O8 := World.ownsRow_lit (e := 9) (base := u4.heap.size) (size := 1) u4 #[.string ⟨#[114, 117, 108, 101]⟩, .string (bs FW), .string (bs EW), .string (bs MN), .string (bs DW), .string (bs TW1), .string (bs RW)] 7 (Nat.le_refl _) (by decide) (by rfl)
  have L8 := row_alloc L6.out (.cells #[.string ⟨#[114, 117, 108, 101]⟩, .string (bs FW), .string (bs EW), .string (bs MN), .string (bs DW), .string (bs TW1), .string (bs RW)] 9)
  have z8 := lt_of_heap L6.out
  have zz := lt_of_heap Zx
  have hu4 := Bd.size
  have hneZ : w.heap.size ≠ u4.heap.size := Nat.ne_of_lt zz
  replace Zx := row_alloc Zx (.cells #[.string ⟨#[114, 117, 108, 101]⟩, .string (bs FW), .string (bs EW), .string (bs MN), .string (bs DW), .string (bs TW1), .string (bs RW)] 9)
  replace Bd := Bd.alloc Bd.size (.cells #[.string ⟨#[114, 117, 108, 101]⟩, .string (bs FW), .string (bs EW), .string (bs MN), .string (bs DW), .string (bs TW1), .string (bs RW)] 9)
  replace gx := (Bd.cell (p := ⟨0, j, none⟩) hg).trans hgc
  refine hK.out _ _ ⟨cell_of_row _ _ _ _ _ _ Zx, cell_of_row _ _ _ _ _ _ Zx, cell_of_row _ _ _ _ _ _ Zx, cell_of_row _ _ _ _ _ _ Zx, cell_of_row _ _ _ _ _ _ Zx, cell_of_row _ _ _ _ _ _ Zx, cell_of_row _ _ _ _ _ _ Zx, cell_of_row _ _ _ _ _ _ Zx, cell_of_row _ _ _ _ _ _ Zx, cell_of_row _ _ _ _ _ _ Zx, cell_of_row _ _ _ _ _ _ Zx, cell_of_row _ _ _ _ _ _ Zx, cell_of_row _ _ _ _ _ _ Zx, gx⟩ ?_
  clear hK K
  try simp only [Act.put, List.setIfInBounds_toArray, List.set_cons_zero, List.set_cons_succ]
  refine plan_calls (by simp only [List.getElem?_toArray, List.getElem?_cons_zero, List.getElem?_cons_succ]; exact rfl) (by as_aux_lemma => rfl) (fun K hK => ?_)
  refine wp_append_lies _ _ _ _ (by rfl) u4.heap.size 9 i1 (.string ⟨#[]⟩) 1 16 Tryz.underlying45 hi hz0 hz1 hz2 rfl (by decide) _ _ _ (by rfl) O8 ⟨w5.heap.size, 0, none⟩ 3 3 [.string (bs O), .string ⟨#[115, 116, 100]⟩, .string (bs A)] (by rfl) (by rfl) (World.news_of_block (cs := #[.string (bs O), .string ⟨#[115, 116, 100]⟩, .string (bs A)]) L8) (by intro u hu; simp at hu; rcases hu with rfl | rfl | rfl <;> rfl) (by decide) (by decide) (by decide) (by simp) _ rfl ?_
  intro g cap w3 hown1 hgrow hat hlt1
  replace Zx := (hgrow.block _ (lt_of_heap Zx) (by intro e; exact hneZ (Option.some.inj e))).trans Zx
  have Bf : Hid (Below w.heap.size w w3) := Lib.hid (Bd.grown hgrow Bd.size (fun k hk => by have := (O8.lt k hk).1; omega))
  replace gx := (Bf.out.cell (p := ⟨0, j, none⟩) hg).trans hgc
  refine hK.out _ _ ⟨cell_of_row _ _ _ _ _ _ Zx, cell_of_row _ _ _ _ _ _ Zx, cell_of_row _ _ _ _ _ _ Zx, cell_of_row _ _ _ _ _ _ Zx, cell_of_row _ _ _ _ _ _ Zx, cell_of_row _ _ _ _ _ _ Zx, cell_of_row _ _ _ _ _ _ Zx, cell_of_row _ _ _ _ _ _ Zx, cell_of_row _ _ _ _ _ _ Zx, cell_of_row _ _ _ _ _ _ Zx, cell_of_row _ _ _ _ _ _ Zx, cell_of_row _ _ _ _ _ _ Zx, cell_of_row _ _ _ _ _ _ Zx, gx⟩ ?_
  clear hK K
  try simp only [Act.put, List.setIfInBounds_toArray, List.set_cons_zero, List.set_cons_succ]
  refine plan_yes (v := ?vb22) (by simp only [List.getElem?_toArray, List.getElem?_cons_zero, List.getElem?_cons_succ]; exact rfl) (Or.inl ⟨by as_aux_lemma => rfl, ?hyb22⟩) ?restb22
  case hyb22 => (intro w2 hSw; (try dsimp only at hSw); obtain ⟨r0, r1, r2, r3, r4, r5, r6, r7, r8, r9, r10, r11, r12, r13⟩ := hSw; go_simp; try with_reducible rfl)
  try simp only [Act.put, List.setIfInBounds_toArray, List.set_cons_zero, List.set_cons_succ]
  refine plan_done (NoPanic.normal ?_)
  have hg2 := (hown1.lt g rfl).1
  have hW : Hid (Wds w3 g [rulW, FW, EW, MN, DW, TW1, RW, O, stdL, A]) := Lib.hid (by
    rcases hown1.2 with ⟨h', _⟩ | ⟨g', cap', cur, h', _, hgh, _, _, _, htake⟩
    · simp at h'
    · simp only [Value.slice.injEq, Option.some.injEq, Addr.mk.injEq, and_true, true_and] at h'
      obtain ⟨rfl, rfl⟩ := h'
      refine ⟨cur, _, hgh, fun q hq => ?_⟩
      have e1 : cur[q]? = (cur.toList.take 10)[q]? := by
        have hq5 : q < 10 := hq
        rw [List.getElem?_take, if_pos hq5]
        simp
      have e2 : cur.toList.take 10 = [.string ⟨#[114, 117, 108, 101]⟩, .string (bs FW), .string (bs EW), .string (bs MN), .string (bs DW), .string (bs TW1), .string (bs RW), .string (bs O), .string ⟨#[115, 116, 100]⟩, .string (bs A)] := htake
      rw [e1, e2, ← lit_of #[114, 117, 108, 101] rulW rfl, ← lit_of #[115, 116, 100] stdL rfl]
      match q, hq with
      | 0, _ => rfl
      | 1, _ => rfl
      | 2, _ => rfl
      | 3, _ => rfl
      | 4, _ => rfl
      | 5, _ => rfl
      | 6, _ => rfl
      | 7, _ => rfl
      | 8, _ => rfl
      | 9, _ => rfl)
  clear hown1 hgrow hat Zx gx Bd L8 O8
  go_simp
  go_wp2
  go_ret
  exact ⟨⟨g, cap, rfl, hW.out, by omega⟩, Bf.out⟩
theorem pLineWords_any (l : Lin) (h : OkL l) (w : World) (hK : KX w) : Calls Tryz.prog 13 #[linA l] w fun e w' => (∃ b c, e = .returned (.slice (some ⟨b, 0, none⟩) (linW l).length c) ∧ Wds w' b (linW l) ∧ w.heap.size ≤ b) ∧ Below w.heap.size w w' := by
  obtain ⟨k, s, f, t, m, dk, dn, dw, ti, rd, off, dst, abb⟩ := l
  obtain ⟨h, o1, o2, o3⟩ := h
  have HO : Hid (∀ W, Below w.heap.size w W → Calls Tryz.prog 12 #[.int .i64 off] W fun e w' => e = .returned (.string (bs (offL off))) ∧ Below W.heap.size W w') := Lib.hid (fun W _ => pOffWord_any off W)
  rcases h with ⟨a, h⟩ | ⟨a, h⟩
  · simp only at a
    subst a
    have HM : Hid (∀ W, Below w.heap.size w W → Calls Tryz.prog 26 #[.int .i64 s] W fun e w' => e = .returned (.string (bs (momL s))) ∧ Below W.heap.size W w') := Lib.hid (fun W hW => pMomWord_any s h.2.2.2.2.2.2.2.2.1 h.2.2.2.2.2.2.2.2.2 W (kx_keep (Lib.hid hK) hW))
    cases dst
    · exact pLw_atS s f t m dk dn dw ti rd off (offL off) (momL s) abb w HO HM
    · exact pLw_atD s f t m dk dn dw ti rd off (offL off) (momL s) abb w HO HM
  · simp only at a
    subst a
    obtain ⟨_, f1, f2, ht, m1, m2, hd, ti0, ti1, r0, r1⟩ := h
    simp only at f1 f2 ht m1 m2 hd ti0 ti1 r0 r1
    obtain ⟨j, hj, rfl⟩ : ∃ j : Nat, j < 12 ∧ m = (j : Int) + 1 := ⟨(m - 1).toNat, by omega, by omega⟩
    have hn : -9223372036854775808 ≤ dn ∧ dn ≤ 9223372036854775807 := by
      rcases mayD_parts hd with ⟨_, e, _⟩ | ⟨_, _, e⟩ | ⟨_, _, e⟩ | ⟨_, _, e⟩ <;> omega
    have hmn := (hK.mn _ gMN).1 j hj
    rw [mn_moS hj] at hmn
    have HI : Hid (∀ W, Below w.heap.size w W → Calls Tryz.prog 27 #[.int .i64 f] W fun e w' => e = .returned (.string (bs (nbI f))) ∧ Below W.heap.size W w') := Lib.hid (fun W hW => pItoa_any f (by omega) (by omega) W (kx_keep (Lib.hid hK) hW))
    have HD : Hid (∀ W, Below w.heap.size w W → Calls Tryz.prog 29 #[.agg #[.int .i64 dk, .int .i64 dn, .int .i64 dw]] W fun e w' => e = .returned (.string (bs (ruD dk dn dw))) ∧ Below W.heap.size W w') := Lib.hid (fun W hW => by
      have := pDayWord_any dk dn dw hn.1 hn.2 W (kx_keep (Lib.hid hK) hW)
      rwa [dwL_ruD hd] at this)
    have HT : Hid (∀ W, Below w.heap.size w W → Calls Tryz.prog 30 #[.int .i64 ti] W fun e w' => e = .returned (.string (bs (timL ti))) ∧ Below W.heap.size W w') := Lib.hid (fun W hW => pTimeWord_any ti ti0 ti1 W (kx_keep (Lib.hid hK) hW))
    have HR : Hid (∀ W, Below w.heap.size w W → Calls Tryz.prog 12 #[.int .i64 rd] W fun e w' => e = .returned (.string (bs (offL rd))) ∧ Below W.heap.size W w') := Lib.hid (fun W _ => pOffWord_any rd W)
    cases dst
    · exact pLw_ruS s f t dk dn dw ti rd off (offL off) _ _ _ _ _ _ j hj abb w HO HI (Lib.hid (fun W hW => pEndWord_any 2 s f t ((j : Int) + 1) dk dn dw ti rd off false (bs abb) f1 f2 (by omega) W (kx_keep (Lib.hid hK) hW))) HD HT HR (hK.mn _ gMN).2 hmn
    · exact pLw_ruD s f t dk dn dw ti rd off (offL off) _ _ _ _ _ _ j hj abb w HO HI (Lib.hid (fun W hW => pEndWord_any 2 s f t ((j : Int) + 1) dk dn dw ti rd off true (bs abb) f1 f2 (by omega) W (kx_keep (Lib.hid hK) hW))) HD HT HR (hK.mn _ gMN).2 hmn
end Go.Proofs.YteinjdmkmfeniaaGreatDoor
namespace Go.Proofs.YteinjdmkmfeniaaGreatDoor
set_option linter.unusedVariables false
set_option linter.unusedSimpArgs false
open Go.ChangeShapes Go.WideShapes Go.ChangeAt Go.RowKit
theorem pieceT_succ (t : Tok) (r : List Tok) (i : Nat) : pieceT (t :: r) (i + 1) = pieceT r i := by
  unfold pieceT gapB
  simp
theorem shW_cons (t : Tok) (r : List Tok) (k : Nat) : shW (t :: r) (k + 1) = pieceT (t :: r) 0 ++ shW r k := by
  unfold shW
  rw [List.range_succ_eq_map, List.flatMap_cons, List.flatMap_map]
  congr 1
  simp only [List.flatMap_def]
  congr 1
  apply List.map_congr_left
  intro i _
  exact pieceT_succ t r i
theorem showT_cons (t : Tok) (r : List Tok) : showT (t :: r) = t.1 ++ (if (t.1 != [10] && (match r.head? with | some x => x.1 != [10] | none => false)) = true then [32] else []) ++ showT r := by
  have h : showT (t :: r) = pieceT (t :: r) 0 ++ showT r := by
    unfold showT
    rw [List.length_cons]
    exact shW_cons t r r.length
  rw [h]
  congr 1
  unfold pieceT gapB
  cases r with
  | nil => simp
  | cons x r => simp
theorem showT_line (ws : List (List UInt8)) (r : List Tok) (h : ∀ t ∈ ws, t ≠ [10]) : showT (lineK ws ++ r) = lineB ws ++ showT r := by
  induction ws with
  | nil =>
    have e : lineK [] ++ r = ([10], 0) :: r := rfl
    rw [e, showT_cons]
    simp [lineB, joinW]
  | cons t ws ih =>
    have ih' := ih (fun x hx => h x (by simp [hx]))
    have ht := h t (by simp)
    have e : lineK (t :: ws) ++ r = (t, 0) :: (lineK ws ++ r) := by unfold lineK; simp
    rw [e, showT_cons, ih']
    unfold lineB
    rw [joinW]
    cases ws with
    | nil =>
      simp [lineK, joinW]
    | cons x ws =>
      have hx : x ≠ [10] := h x (by simp)
      have e2 : ((lineK (x :: ws) ++ r).head?) = some (x, 0) := by unfold lineK; simp
      rw [e2]
      have c1 : (t != [10]) = true := bne_iff_ne.2 ht
      have c2 : (x != [10]) = true := bne_iff_ne.2 hx
      simp [c1, c2]
theorem showT_lines (G : List (List (List UInt8))) (h : ∀ ws ∈ G, ∀ t ∈ ws, t ≠ [10]) : showT (G.flatMap lineK) = textB G := by
  induction G with
  | nil => rfl
  | cons ws r ih =>
    rw [List.flatMap_cons, showT_line ws _ (h ws (by simp)), ih (fun x hx => h x (by simp [hx]))]
    unfold textB
    rw [List.flatMap_cons]
theorem join_word {ws : List (List UInt8)} {t : List UInt8} (h : t ∈ ws) : t.length ≤ (joinW ws).length := by
  induction ws with
  | nil => cases h
  | cons x r ih =>
    rw [joinW]
    rcases List.mem_cons.1 h with rfl | h
    · split <;> simp
    · have := ih h
      split
      · rename_i hr; subst hr; cases h
      · simp; omega
theorem zsT_le (T : List Tok) (n : Nat) (h : ∀ t ∈ T, t.1.length ≤ n) : zsT T ≤ (n + 1) * T.length := by
  unfold zsT
  induction T with
  | nil => simp
  | cons t T ih =>
    have h1 := h t (by simp)
    have h2 := ih (fun x hx => h x (by simp [hx]))
    rw [List.map_cons, List.sum_cons, List.length_cons, Nat.mul_succ]
    omega
theorem lineK_len (ws : List (List UInt8)) : (lineK ws).length = ws.length + 1 := by unfold lineK; simp
theorem lines_len (G : List (List (List UInt8))) (h : ∀ ws ∈ G, ws.length ≤ 10) : (G.flatMap lineK).length ≤ 11 * G.length := by
  induction G with
  | nil => simp
  | cons ws r ih =>
    have h1 := h ws (by simp)
    have h2 := ih (fun x hx => h x (by simp [hx]))
    rw [List.flatMap_cons, List.length_append, lineK_len, List.length_cons]
    omega
theorem src_show {z : Src} (h : OkS z) : showT ((srcW z).flatMap lineK) = shwR z ∧ zsT ((srcW z).flatMap lineK) ≤ 1000000000 ∧ ((srcW z).flatMap lineK).length ≤ 198 := by
  obtain ⟨p1, p2, p3, p4⟩ := src_plain h
  refine ⟨showT_lines _ (fun ws hw t ht => plW_nl ((p1 ws hw).2 t ht)), ?_, ?_⟩
  · have hl := lines_len (srcW z) p3
    have hz := zsT_le ((srcW z).flatMap lineK) 100 (fun t ht => by
      obtain ⟨ws, hws, ht⟩ := List.mem_flatMap.1 ht
      have hb := p2 ws hws
      unfold lineB at hb
      rw [List.length_append] at hb
      unfold lineK at ht
      rcases List.mem_append.1 ht with ht | ht
      · obtain ⟨x, hx, rfl⟩ := List.mem_map.1 ht
        have := join_word hx
        show x.length ≤ 100
        simp at hb
        omega
      · rw [List.mem_singleton] at ht
        subst ht
        decide)
    have h2 : 101 * ((srcW z).flatMap lineK).length ≤ 101 * 198 := Nat.mul_le_mul_left _ (by omega)
    omega
  · have hl := lines_len (srcW z) p3
    omega
theorem srcW_eq (z : Src) : (srcW z).flatMap lineK = lineK [zonW, z.nam] ++ lineK [basW, offL z.off, z.abb] ++ z.lns.flatMap (fun l => lineK (linW l)) := by
  unfold srcW
  rw [List.flatMap_cons, List.flatMap_cons, List.flatMap_map, List.append_assoc]
noncomputable def shQ (z : Src) : List UInt8 := if ckP z = 0 then shwR z else []
set_option maxHeartbeats 3200000 in
set_option maxRecDepth 100000 in
theorem show_ok (z : Src) (hz : OkS z) (A : Option Addr) (c : Nat) (w : World) (hK : KX w) (h : Rd w A (linVs z.lns)) (HC : Hid (∀ W, Below w.heap.size w W → Calls Tryz.prog 10 #[.agg #[.string (bs z.nam), .int .i64 z.off, .bool z.dst, .string (bs z.abb), .slice A z.lns.length c]] W fun e w' => e = .returned (.int .i64 0) ∧ Below W.heap.size W w')) :
    Calls Tryz.prog 7 #[.agg #[.string (bs z.nam), .int .i64 z.off, .bool z.dst, .string (bs z.abb), .slice A z.lns.length c]] w fun e w' => e = .returned (.tuple #[.string (bs (shwR z)), .int .i64 0]) ∧ Below w.heap.size w w' := by
  obtain ⟨e1, e2, e3⟩ := src_show hz
  have hsrc := srcW_eq z
  rw [hsrc] at e1 e2 e3
  have HO : Hid (∀ W, Below w.heap.size w W → Calls Tryz.prog 12 #[.int .i64 z.off] W fun e w' => e = .returned (.string (bs (offL z.off))) ∧ Below W.heap.size W w') := Lib.hid (fun W _ => pOffWord_any z.off W)
  have HL : Hid (∀ k (hk : k < z.lns.length) W, Below w.heap.size w W → Calls Tryz.prog 13 #[linA z.lns[k]] W fun e w' => (∃ b c, e = .returned (.slice (some ⟨b, 0, none⟩) (linW z.lns[k]).length c) ∧ Wds w' b (linW z.lns[k]) ∧ W.heap.size ≤ b) ∧ Below W.heap.size W w') := Lib.hid (fun k hk W hW => pLineWords_any _ (hz.2.2.2.2.2 _ (by simp)) W (kx_keep (Lib.hid hK) hW))
  have HW10 : Hid (∀ l ∈ z.lns, (linW l).length ≤ 10) := Lib.hid (fun l _ => by unfold linW; split <;> simp)
  have h16 := hz.1
  have HR := Lib.hid h
  clear hz h hsrc hK
  have Z0 := Lib.hid (heap_alloc_new w (.cells #[.string (bs z.nam), .int .i64 z.off, .bool z.dst, .string (bs z.abb), .slice A z.lns.length c] 26))
  have B0 := Lib.hid ((Below.refl _ w).alloc (Nat.le_refl _) (.cells #[.string (bs z.nam), .int .i64 z.off, .bool z.dst, .string (bs z.abb), .slice A z.lns.length c] 26))
  replace e1 := Lib.hid e1
  replace e2 := Lib.hid e2
  replace e3 := Lib.hid e3
  go_enter Tryz.func7, Tryz.ntmps7
  go_wp2_with fail
  refine (HC.out _ B0.out).mono ?_
  rintro e w1 ⟨rfl, hb1⟩
  have Z1 := row_call hb1 Z0.out
  have B1 := Lib.hid (B0.out.trans (hb1.mono B0.out.size))
  have c10 : w1.cell? ⟨w.heap.size, 0, none⟩ = some (.string (bs z.nam)) := cell_of_row _ _ _ _ _ _ Z1
  have zl1 := lt_of_heap Z1
  clear hb1 HC
  replace Z1 := Lib.hid Z1
  go_wp2_with fail
  -- the first line
  have N2 := heap_alloc_new w1 (.cells #[.string ⟨#[122, 111, 110, 101]⟩, .string (bs z.nam)] 9)
  have Z2 := row_alloc Z1.out (.cells #[.string ⟨#[122, 111, 110, 101]⟩, .string (bs z.nam)] 9)
  have B2 := Lib.hid (B1.out.alloc B1.out.size (.cells #[.string ⟨#[122, 111, 110, 101]⟩, .string (bs z.nam)] 9))
  have D2 : Wds (w1.alloc (.cells #[.string ⟨#[122, 111, 110, 101]⟩, .string (bs z.nam)] 9)) w1.heap.size [zonW, z.nam] := ⟨_, _, N2, fun j hj => by
    rw [← lit_of #[122, 111, 110, 101] zonW rfl]
    match j, hj with
    | 0, _ => rfl
    | 1, _ => rfl⟩
  have H2 := pWith_any (B := w.heap.size + 1) [] [zonW, z.nam] (by simp) (by simp) w1.heap.size 2 (.slice none 0 0) _ (by simp; omega) (World.ownsRow_nil _ _ _ _) D2
  clear N2 D2 c10
  replace Z2 := Lib.hid Z2
  replace H2 := Lib.hid H2
  refine H2.out.mono ?_
  rintro e w3 ⟨v3, rfl, O3, hb3⟩
  have Z3 : w3.heap[w.heap.size]? = _ := (hb3.block w.heap.size (by omega)).trans Z2.out
  have B3 := Lib.hid (B2.out.trans (hb3.mono (Nat.le_succ _)))
  have s0 : w3.cell? ⟨w.heap.size, 1, none⟩ = some (.int .i64 z.off) := cell_of_row _ _ _ _ _ _ Z3
  have s1 : w3.cell? ⟨w.heap.size, 3, none⟩ = some (.string (bs z.abb)) := cell_of_row _ _ _ _ _ _ Z3
  have zl3 := lt_of_heap Z3
  obtain ⟨A3, k3, g3, rfl, -⟩ := own_form O3
  clear hb3 H2 Z2
  replace Z3 := Lib.hid Z3
  replace O3 := Lib.hid O3
  go_wp2_with fail
  -- the second line
  have Bd : Below w.heap.size w w3.drew := B3.out.drew
  refine region_plan (S := fun w2 => w2.cell? ⟨w.heap.size, 1, none⟩ = some (.int .i64 z.off) ∧ w2.cell? ⟨w.heap.size, 3, none⟩ = some (.string (bs z.abb))) [(0, true), (1, true), (2, true), (3, true), (5, true), (6, true), (7, true), (4, false), (8, false), (9, false), (10, true)] (by as_aux_lemma => kernel_rfl) (by as_aux_lemma => kernel_rfl) (by as_aux_lemma => kernel_rfl) (by as_aux_lemma => kernel_rfl) ⟨by rw [World.cell?_drew]; exact s0, by rw [World.cell?_drew]; exact s1⟩ ?_
  refine plan_yes (v := ?v0) (by simp only [List.getElem?_toArray, List.getElem?_cons_zero, List.getElem?_cons_succ]; exact rfl) (Or.inl ⟨by as_aux_lemma => rfl, ?hy0⟩) ?rest0
  case hy0 => (intro w2 hSw; (try dsimp only at hSw); obtain ⟨r0, r1⟩ := hSw; go_simp; try with_reducible rfl)
  try simp only [Act.put, List.setIfInBounds_toArray, List.set_cons_zero, List.set_cons_succ]
  refine plan_yes (v := ?v1) (by simp only [List.getElem?_toArray, List.getElem?_cons_zero, List.getElem?_cons_succ]; exact rfl) (Or.inl ⟨by as_aux_lemma => rfl, ?hy1⟩) ?rest1
  case hy1 => (intro w2 hSw; (try dsimp only at hSw); obtain ⟨r0, r1⟩ := hSw; go_simp; try with_reducible rfl)
  try simp only [Act.put, List.setIfInBounds_toArray, List.set_cons_zero, List.set_cons_succ]
  refine plan_yes (v := ?v2) (by simp only [List.getElem?_toArray, List.getElem?_cons_zero, List.getElem?_cons_succ]; exact rfl) (Or.inl ⟨by as_aux_lemma => rfl, ?hy2⟩) ?rest2
  case hy2 => (intro w2 hSw; (try dsimp only at hSw); obtain ⟨r0, r1⟩ := hSw; go_simp; try with_reducible rfl)
  try simp only [Act.put, List.setIfInBounds_toArray, List.set_cons_zero, List.set_cons_succ]
  refine plan_yes (v := ?v3) (by simp only [List.getElem?_toArray, List.getElem?_cons_zero, List.getElem?_cons_succ]; exact rfl) (Or.inl ⟨by as_aux_lemma => rfl, ?hy3⟩) ?rest3
  case hy3 => (intro w2 hSw; (try dsimp only at hSw); obtain ⟨r0, r1⟩ := hSw; go_simp; try with_reducible rfl)
  try simp only [Act.put, List.setIfInBounds_toArray, List.set_cons_zero, List.set_cons_succ]
  refine plan_yes (v := ?v5) (by simp only [List.getElem?_toArray, List.getElem?_cons_zero, List.getElem?_cons_succ]; exact rfl) (Or.inl ⟨by as_aux_lemma => rfl, ?hy5⟩) ?rest5
  case hy5 => (intro w2 hSw; (try dsimp only at hSw); obtain ⟨r0, r1⟩ := hSw; go_simp; try with_reducible rfl)
  try simp only [Act.put, List.setIfInBounds_toArray, List.set_cons_zero, List.set_cons_succ]
  refine plan_yes (v := ?v6) (by simp only [List.getElem?_toArray, List.getElem?_cons_zero, List.getElem?_cons_succ]; exact rfl) (Or.inl ⟨by as_aux_lemma => rfl, ?hy6⟩) ?rest6
  case hy6 => (intro w2 hSw; (try dsimp only at hSw); obtain ⟨r0, r1⟩ := hSw; go_simp; try with_reducible rfl)
  try simp only [Act.put, List.setIfInBounds_toArray, List.set_cons_zero, List.set_cons_succ]
  refine plan_yes (v := ?v7) (by simp only [List.getElem?_toArray, List.getElem?_cons_zero, List.getElem?_cons_succ]; exact rfl) (Or.inl ⟨by as_aux_lemma => rfl, ?hy7⟩) ?rest7
  case hy7 => (intro w2 hSw; (try dsimp only at hSw); obtain ⟨r0, r1⟩ := hSw; go_simp; try with_reducible rfl)
  try simp only [Act.put, List.setIfInBounds_toArray, List.set_cons_zero, List.set_cons_succ]
  refine plan_calls (by simp only [List.getElem?_toArray, List.getElem?_cons_zero, List.getElem?_cons_succ]; exact rfl) (by as_aux_lemma => rfl) (fun K hK => ?_)
  go_simp
  refine (HO.out _ Bd).mono ?_
  rintro e w5 ⟨rfl, hb5⟩
  have Z5 := row_call hb5 Z3.out
  have O5 := own_up O3.out.drew hb5
  have B5 := Lib.hid (Bd.trans (hb5.mono Bd.size))
  refine hK.out _ _ ⟨cell_of_row _ _ _ _ _ _ Z5, cell_of_row _ _ _ _ _ _ Z5⟩ ?_
  clear hK K hb5 s0 s1
  try simp only [Act.put, List.setIfInBounds_toArray, List.set_cons_zero, List.set_cons_succ]
  refine plan_calls (by simp only [List.getElem?_toArray, List.getElem?_cons_zero, List.getElem?_cons_succ]; exact rfl) (by as_aux_lemma => rfl) (fun K hK => ?_)
  go_simp
  have N6 := heap_alloc_new w5 (.cells #[.string ⟨#[98, 97, 115, 101]⟩, .string (bs (offL z.off)), .string (bs z.abb)] 9)
  have Z6 := row_alloc Z5 (.cells #[.string ⟨#[98, 97, 115, 101]⟩, .string (bs (offL z.off)), .string (bs z.abb)] 9)
  have O6 := O5.alloc (.cells #[.string ⟨#[98, 97, 115, 101]⟩, .string (bs (offL z.off)), .string (bs z.abb)] 9)
  have B6 := Lib.hid (B5.out.alloc B5.out.size (.cells #[.string ⟨#[98, 97, 115, 101]⟩, .string (bs (offL z.off)), .string (bs z.abb)] 9))
  have D6 : Wds (w5.alloc (.cells #[.string ⟨#[98, 97, 115, 101]⟩, .string (bs (offL z.off)), .string (bs z.abb)] 9)) w5.heap.size [basW, offL z.off, z.abb] := ⟨_, _, N6, fun j hj => by
    rw [← lit_of #[98, 97, 115, 101] basW rfl]
    match j, hj with
    | 0, _ => rfl
    | 1, _ => rfl
    | 2, _ => rfl⟩
  have zl5 := lt_of_heap Z5
  have H6 := Lib.hid (pWith_any (B := w.heap.size + 1) (lineK [zonW, z.nam]) [basW, offL z.off, z.abb] (by rw [lineK_len]; simp) (by simp) w5.heap.size 3 (.slice A3 3 k3) _ (by simp; omega) O6 D6)
  refine hK.out _ _ ⟨cell_of_row _ _ _ _ _ _ Z6, cell_of_row _ _ _ _ _ _ Z6⟩ ?_
  clear hK K N6 D6 Z5 O5
  try simp only [Act.put, List.setIfInBounds_toArray, List.set_cons_zero, List.set_cons_succ]
  refine plan_calls (by simp only [List.getElem?_toArray, List.getElem?_cons_zero, List.getElem?_cons_succ]; exact rfl) (by as_aux_lemma => rfl) (fun K hK => ?_)
  go_simp
  refine H6.out.mono ?_
  rintro e w7 ⟨v7, rfl, O7, hb7⟩
  have Z7 : w7.heap[w.heap.size]? = _ := (hb7.block w.heap.size (by omega)).trans Z6
  have B7 := Lib.hid (B6.out.trans (hb7.mono (Nat.le_succ _)))
  have s7 : Hid (w.heap.size + 1 ≤ w7.heap.size) := Lib.hid (lt_of_heap Z7)
  refine hK.out _ _ ⟨cell_of_row _ _ _ _ _ _ Z7, cell_of_row _ _ _ _ _ _ Z7⟩ ?_
  clear hK K hb7 H6 Z6 O6
  try simp only [Act.put, List.setIfInBounds_toArray, List.set_cons_zero, List.set_cons_succ]
  refine plan_yes (v := ?v10) (by simp only [List.getElem?_toArray, List.getElem?_cons_zero, List.getElem?_cons_succ]; exact rfl) (Or.inl ⟨by as_aux_lemma => rfl, ?hy10⟩) ?rest10
  case hy10 => (intro w2 hSw; (try dsimp only at hSw); obtain ⟨r0, r1⟩ := hSw; go_simp; try with_reducible rfl)
  try simp only [Act.put, List.setIfInBounds_toArray, List.set_cons_zero, List.set_cons_succ]
  refine plan_done (NoPanic.normal ?_)
  obtain ⟨A7, k7, g7, rfl, -⟩ := own_form O7
  have c4 : w7.cell? ⟨w.heap.size, 4, none⟩ = some (.slice A z.lns.length c) := cell_of_row _ _ _ _ _ _ Z7
  have O7' : Hid (w7.ownsRow (w.heap.size + 1) 59 2 (.slice A7 7 k7) 7 (tokVs (lineK [zonW, z.nam] ++ lineK [basW, offL z.off, z.abb]))) := Lib.hid O7
  clear O7 Z7
  go_simp
  go_wp2
  go_loopw [5, 31] (fun tv i wr => ∃ (k n : Nat), k ≤ z.lns.length ∧ i = .int .i64 (k : Int) ∧ n = (lineK [zonW, z.nam] ++ lineK [basW, offL z.off, z.abb] ++ (z.lns.take k).flatMap (fun l => lineK (linW l))).length ∧ n ≤ 7 + 11 * k ∧ wr.ownsRow (w.heap.size + 1) 59 2 tv n (tokVs (lineK [zonW, z.nam] ++ lineK [basW, offL z.off, z.abb] ++ (z.lns.take k).flatMap (fun l => lineK (linW l)))) ∧ Below w.heap.size w wr ∧ w.heap.size + 1 ≤ wr.heap.size) (fun _ i _ => z.lns.length - (intOf i).toNat)
  case atStart =>
    refine ⟨0, 7, by omega, rfl, ?_, by omega, ?_, B7.out, s7.out⟩
    · simp [lineK]
    · simpa [lineK_len] using O7'.out
  case round =>
    obtain ⟨k, n, hk, rfl, hn, hn2, O8, B8, s8⟩ := hrel
    have hR := HR.out.below B8 (Nat.le_refl _)
    obtain ⟨TA, tc, tg, rfl, -⟩ := own_form O8
    by_cases hlt : k < z.lns.length
    · obtain ⟨b, o, rfl, hb, hc⟩ := hR.lin hlt
      obtain ⟨a0, a1, a2, a3, a4, a5, a6, a7, a8, a9, a10, a11, a12⟩ := hc k hlt
      have HLk := Lib.hid (HL.out k hlt)
      have hw10 := Lib.hid (HW10.out z.lns[k] (by simp))
      obtain ⟨l, hTk⟩ : ∃ l, z.lns[k] = l := ⟨_, rfl⟩
      rw [hTk] at a0 a1 a2 a3 a4 a5 a6 a7 a8 a9 a10 a11 a12 HLk hw10
      have htk : Hid ((z.lns.take (k + 1)).flatMap (fun l => lineK (linW l)) = (z.lns.take k).flatMap (fun l => lineK (linW l)) ++ lineK (linW l)) := Lib.hid (by rw [← hTk, ← List.take_append_getElem hlt, List.flatMap_append]; simp)
      replace hTk := Lib.hid hTk
      replace O8 := Lib.hid O8
      replace hn := Lib.hid hn
      clear hc hR HL HO e1 e2 e3
      have hltN : (k : Int) < (z.lns.length : Int) := by omega
      have hwk : IntKind.i64.wrap ((k : Int) + 1) = (k : Int) + 1 := wrap_small _ (by omega) (by omega)
      have Ba : Hid (Below w.heap.size w (wr.alloc (.cells (linC l) 41))) := Lib.hid (B8.alloc B8.size _)
      have Oa : Hid ((wr.alloc (.cells (linC l) 41)).ownsRow (w.heap.size + 1) 59 2 (.slice TA n tc) n (tokVs (lineK [zonW, z.nam] ++ lineK [basW, offL z.off, z.abb] ++ (z.lns.take k).flatMap (fun l => lineK (linW l))))) := Lib.hid (O8.out.alloc _)
      have HLa := Lib.hid (HLk.out _ Ba.out)
      have sa : w.heap.size + 1 ≤ (wr.alloc (.cells (linC l) 41)).heap.size := by simp; omega
      unfold linA at HLa
      unfold linC at HLa Ba Oa sa
      clear O8 HLk HW10 Z0 B0 Z1 B1 Z3 B3
      go_wp2_with fail
      refine HLa.out.mono ?_
      rintro e w9 ⟨⟨b9, c9, rfl, D9, -⟩, hb9⟩
      have O9 : w9.ownsRow (w.heap.size + 1) 59 2 (.slice TA n tc) (lineK [zonW, z.nam] ++ lineK [basW, offL z.off, z.abb] ++ (z.lns.take k).flatMap (fun l => lineK (linW l))).length (tokVs (lineK [zonW, z.nam] ++ lineK [basW, offL z.off, z.abb] ++ (z.lns.take k).flatMap (fun l => lineK (linW l)))) := by
        rw [← hn.out]; exact own_up Oa.out hb9
      have B9 := Lib.hid (Ba.out.trans (hb9.mono Ba.out.size))
      have s9 : w.heap.size + 1 ≤ w9.heap.size := Nat.le_trans sa hb9.size
      have H9 := pWith_any (B := w.heap.size + 1) _ (linW l) (by rw [← hn.out]; omega) (by have := hw10.out; omega) b9 c9 (.slice TA n tc) w9 s9 O9 D9
      rw [← hn.out] at H9
      replace H9 := Lib.hid H9
      clear D9 hb9 O9 Oa HLa Ba sa
      go_wp2_with fail
      refine H9.out.mono ?_
      rintro e w10 ⟨v10, rfl, O10, hb10⟩
      have B10 := Lib.hid (B9.out.trans (hb10.mono (Nat.le_succ _)))
      have s10 : w.heap.size + 1 ≤ w10.heap.size := Nat.le_trans s9 hb10.size
      obtain ⟨A10, k10, g10, rfl, -⟩ := own_form O10
      replace O10 := Lib.hid O10
      clear hb10 H9
      go_wp2
      go_roundw
      case rel => exact ⟨k + 1, n + (linW l).length + 1, by omega, by go_num, by rw [htk.out, ← List.append_assoc, List.length_append, ← hn.out, lineK_len]; omega, by have := hw10.out; omega, by rw [htk.out, ← List.append_assoc]; exact O10.out, B10.out, s10⟩
      case measure => simp [intOf]; omega
    · obtain rfl : k = z.lns.length := by omega
      rw [List.take_length] at O8 hn
      have HS := Lib.hid (pShow_any _ e2.out TA tc wr (Rd.own O8))
      rw [← hn, e1.out] at HS
      replace B8 := Lib.hid B8
      replace hn := Lib.hid hn
      have hkT : ¬ ((z.lns.length : Int) < (z.lns.length : Int)) := by omega
      clear O8 hR
      go_wp2_with fail
      refine HS.out.mono ?_
      rintro e w9 ⟨rfl, hb9⟩
      have B9 := Lib.hid (B8.out.trans (hb9.mono B8.out.size))
      clear hb9
      go_wp2
      go_ret2
      exact ⟨rfl, B9.out⟩
set_option maxHeartbeats 1600000 in
set_option maxRecDepth 100000 in
theorem show_no (N Ab : ByteArray) (o E : Int) (d : Bool) (n : Nat) (A : Option Addr) (c : Nat) (hE : E ≠ 0) (w : World) (HC : Hid (∀ W, Below w.heap.size w W → Calls Tryz.prog 10 #[.agg #[.string N, .int .i64 o, .bool d, .string Ab, .slice A n c]] W fun e w' => e = .returned (.int .i64 E) ∧ Below W.heap.size W w')) :
    Calls Tryz.prog 7 #[.agg #[.string N, .int .i64 o, .bool d, .string Ab, .slice A n c]] w fun e w' => e = .returned (.tuple #[.string (bs []), .int .i64 E]) ∧ Below w.heap.size w w' := by
  have q : (E != 0) = true := bne_iff_ne.2 hE
  have e0 := Lib.hid bs_empty
  generalize bs [] = Z at *
  have B0 := Lib.hid ((Below.refl _ w).alloc (Nat.le_refl _) (.cells #[.string N, .int .i64 o, .bool d, .string Ab, .slice A n c] 26))
  go_enter Tryz.func7, Tryz.ntmps7
  go_wp2_with fail
  refine (HC.out _ B0.out).mono ?_
  rintro e w1 ⟨rfl, hb1⟩
  have B1 := Lib.hid (B0.out.trans (hb1.mono B0.out.size))
  clear hb1 HC
  go_wp2
  go_ret2
  exact ⟨by rw [e0.out]; rfl, B1.out⟩
theorem pRuShow_any (z : Src) (A : Option Addr) (c : Nat) (w : World) (hK : KX w) (h : Rd w A (linVs z.lns)) (hz : SB z) : Calls Tryz.prog 7 #[srcV z A c] w fun e w' => e = .returned (.tuple #[.string (bs (shQ z)), .int .i64 (ckP z)]) ∧ Below w.heap.size w w' := by
  have HC := Lib.hid (fun W (hb : Below w.heap.size w W) => pRuCheck_any z A c W (kx_keep (Lib.hid hK) hb) (h.below hb (Nat.le_refl _)) hz)
  unfold srcV at HC ⊢
  by_cases hc : ckP z = 0
  · have hs : shQ z = shwR z := if_pos hc
    rw [hs, hc]
    rw [hc] at HC
    exact show_ok z ((ckP_zero z).1 hc) A c w hK h HC
  · have hs : shQ z = [] := if_neg hc
    rw [hs]
    exact show_no _ _ _ _ _ _ _ _ hc w HC
end Go.Proofs.YteinjdmkmfeniaaGreatDoor
