/- Several texts in one: EpQ. -/
import Derived.Test.YtafecnlaodgmkaaGreatDoorY2Sm
import Derived.Test.YtafecnlaodgmkaaGreatDoorY2Pkg1
import Derived.Test.YtafecnlaodgmkaaGreatDoorY2Ref1
import Derived.Test.YtafecnlaodgmkaaGreatDoorY2Ep2
namespace Go.Proofs.YtafecnlaodgmkaaGreatDoor
set_option linter.unusedVariables false
set_option linter.unusedSimpArgs false
open Go.ChangeShapes Go.WideShapes Go.ChangeAt Go.RowKit
def lastT (l : List Chg) (was : Tri) : Tri := l.foldl (fun _ e => e.2) was
theorem lastT_snoc (l : List Chg) (e : Chg) (was : Tri) : lastT (l ++ [e]) was = e.2 := by unfold lastT; rw [List.foldl_append]; rfl
theorem alnL_snoc : ∀ (l : List Chg) (e : Chg) (was : Tri), alnL (l ++ [e]) was = alnL l was ++ (if e.2 = lastT l was then [] else [e]) := by
  intro l
  induction l with
  | nil =>
    intro e was
    show (if e.2 = was then alnL [] e.2 else e :: alnL [] e.2) = [] ++ (if e.2 = lastT [] was then [] else [e])
    show (if e.2 = was then [] else [e]) = [] ++ (if e.2 = was then [] else [e])
    simp
  | cons x l ih =>
    intro e was
    show (if x.2 = was then alnL (l ++ [e]) x.2 else x :: alnL (l ++ [e]) x.2) = (if x.2 = was then alnL l x.2 else x :: alnL l x.2) ++ (if e.2 = lastT l x.2 then [] else [e])
    rw [ih]
    split <;> simp
theorem alnL_len : ∀ (l : List Chg) (was : Tri), (alnL l was).length ≤ l.length := by
  intro l
  induction l with
  | nil => intro was; exact Nat.le_refl _
  | cons x l ih =>
    intro was
    have := ih x.2
    show (if x.2 = was then alnL l x.2 else x :: alnL l x.2).length ≤ _
    split <;> simp <;> omega
theorem aln_same {L : List Chg} {was : Tri} {i : Nat} (hi : i < L.length) (h : L[i].2 = lastT (L.take i) was) : alnL (L.take (i + 1)) was = alnL (L.take i) was := by
  rw [List.take_succ_eq_append_getElem hi, alnL_snoc, if_pos h, List.append_nil]
theorem aln_more {L : List Chg} {was : Tri} {i : Nat} (hi : i < L.length) (h : L[i].2 ≠ lastT (L.take i) was) : alnL (L.take (i + 1)) was = alnL (L.take i) was ++ [L[i]] := by
  rw [List.take_succ_eq_append_getElem hi, alnL_snoc, if_neg h]
theorem last_next {L : List Chg} {was : Tri} {i : Nat} (hi : i < L.length) : lastT (L.take (i + 1)) was = L[i].2 := by
  rw [List.take_succ_eq_append_getElem hi, lastT_snoc]
theorem chgVs_set : ∀ (X : List Chg) (j : Nat) (x : Chg), j < X.length → chgVs (X.set j x) = (chgVs X).take (j * 4) ++ chgV x ++ (chgVs X).drop (j * 4 + (chgV x).length) := by
  intro X
  induction X with
  | nil => intro j x h; simp at h
  | cons y X ih =>
    intro j x h
    have hl : ∀ e, (chgV e).length = 4 := fun e => rfl
    cases j with
    | zero =>
      show chgV x ++ chgVs X = _
      rw [hl]
      show _ = List.take 0 (chgV y ++ chgVs X) ++ chgV x ++ List.drop (0 * 4 + 4) (chgV y ++ chgVs X)
      rw [List.drop_append_of_le_length (by rw [hl]; omega)]
      simp [chgV]
    | succ j =>
      show chgV y ++ chgVs (X.set j x) = List.take ((j + 1) * 4) (chgV y ++ chgVs X) ++ chgV x ++ List.drop ((j + 1) * 4 + (chgV x).length) (chgV y ++ chgVs X)
      have e1 : List.take ((j + 1) * 4) (chgV y ++ chgVs X) = chgV y ++ List.take (j * 4) (chgVs X) := by
        rw [List.take_append, hl, List.take_of_length_le (l := chgV y) (by rw [hl]; omega), show (j + 1) * 4 - 4 = j * 4 by omega]
      have e2 : List.drop ((j + 1) * 4 + (chgV x).length) (chgV y ++ chgVs X) = List.drop (j * 4 + (chgV x).length) (chgVs X) := by
        rw [List.drop_append, hl, hl, List.drop_of_length_le (l := chgV y) (by rw [hl]; omega), show (j + 1) * 4 + 4 - 4 = j * 4 + 4 by omega, List.nil_append]
      rw [ih j x (by simpa using h), e1, e2]
      simp
theorem ah_low {YF : Int → Int} (hYF : ∀ S, YIs S (YF S)) {z : Src} (hOk : ∀ l ∈ z.lns, OkL l) {x : Int} (hx : x < -377705116800) : ahT YF z x = (z.off, z.dst, z.abb) := by
  unfold ahT
  rcases ahS_spec (lnA YF z.lns x) z.lns.length with ⟨h, _⟩ | ⟨i, a, hi, _, h, _⟩
  · rw [h]; rfl
  · exfalso
    have hl : z.lns[i]? = some z.lns[i] := List.getElem?_eq_getElem hi
    have h2 : lineA YF z.lns[i] x = some a := by unfold lnA at h; rw [hl] at h; exact h
    obtain ⟨⟨y, hy⟩, ha, _⟩ := lineA_some hYF (hOk _ (List.getElem_mem hi)) (by omega) h2
    have := hy.2.1
    omega
theorem wasT_ah {YF : Int → Int} (hYF : ∀ S, YIs S (YF S)) {z : Src} (hOk : ∀ l ∈ z.lns, OkL l) {f : Int} (hf : -9999 ≤ f) : ahT YF z (staI f - 1) = wasT YF z f := by
  unfold wasT
  have := staI_min hf
  by_cases h : -377705116800 < staI f
  · rw [if_pos h]
  · rw [if_neg h]; exact ah_low hYF hOk (by omega)
theorem wpList_append_here {P : Program} {ops : Array Oper} {rest : List Oper} {o : Oper} {a : Act} {Q : Exit → Act → World → Prop} (hgd : o.guard = none) (s x : Operand) (t : TypeId)
    (ho : o.op = .call { callee := .builtin .append, args := #[s, x], argTypes := #[t, t] }) (sv xv v' : Value) (w w' : World) (hs : a.eval s = sv) (hx : a.eval x = xv)
    (hr : (Builtin.append_ #[t, t] o.type #[sv, xv]).run P w = .ok v' w') (h : wpList P ops Q rest (a.put o.dst v') w') : wpList P ops Q (o :: rest) a w :=
  wpList_plain hgd fun _ hK => (by
    unfold Oper.wp execOp
    simp only [ho, resolve, invoke, builtin, Sem.run_bind, Sem.run_pure, Result.andThen_ok, List.map_toArray, List.map_cons, List.map_nil, hs, hx, hr]
    exact hK _ _ h)
theorem chgVs_app (X Y : List Chg) : chgVs (X ++ Y) = chgVs X ++ chgVs Y := by unfold chgVs; rw [List.flatMap_append]
theorem rd_head {w : World} {A : Option Addr} {X M : List Chg} (h : Rd w A (chgVs X)) (hm : M.length ≤ X.length) (he : ∀ q, q < M.length → X[q]! = M[q]!) : Rd w A (chgVs M) := by
  have hx : X = M ++ X.drop M.length := by
    conv => lhs; rw [← List.take_append_drop M.length X]
    congr 1
    apply List.ext_getElem (by simp; omega)
    intro q h1 h2
    have := he q h2
    rw [getElem!_pos X q (by omega), getElem!_pos M q h2] at this
    simpa using this
  rw [hx, chgVs_app] at h
  intro j u hu
  exact h j u (by rw [List.getElem?_append_left (List.getElem?_eq_some_iff.1 hu).1]; exact hu)
theorem set_at {X : List Chg} {j q : Nat} {x : Chg} (hj : j < X.length) (hq : q < X.length) : (X.set j x)[q]! = if q = j then x else X[q]! := by
  rw [getElem!_pos (X.set j x) q (by simpa using hq), List.getElem_set, getElem!_pos X q hq]
  by_cases e : q = j
  · rw [if_pos e.symm, if_pos e]
  · rw [if_neg (Ne.symm e), if_neg e]
theorem app_at {M : List Chg} {x : Chg} {q : Nat} (hq : q < M.length + 1) : (M ++ [x])[q]! = if q = M.length then x else M[q]! := by
  rw [getElem!_pos (M ++ [x]) q (by simpa using hq)]
  by_cases e : q = M.length
  · rw [if_pos e, List.getElem_append_right (by omega)]
    simp [e]
  · rw [if_neg e, List.getElem_append_left (by omega), getElem!_pos M q (by omega)]
set_option maxHeartbeats 12800000 in
set_option maxRecDepth 100000 in
theorem pExChanges_any {YF : Int → Int} (hYF : ∀ S, YIs S (YF S)) (z : Src) (A : Option Addr) (c : Nat) (f t : Int) (w : World) (hK : KX w) (h : Rd w A (linVs z.lns)) (hz : SB z) :
    Calls Tryz.prog 17 #[srcV z A c, .int .i64 f, .int .i64 t] w (RetChg (ChP YF z f t) (evE z f t) w) := by
  have hM : Hid (KX w ∧ Rd w A (linVs z.lns)) := Lib.hid ⟨hK, h⟩
  by_cases hE : evE z f t = 0
  · have HE : Hid (∀ w, (KX w ∧ Rd w A (linVs z.lns)) → Calls Tryz.prog 30 #[srcV z A c, .int .i64 f, .int .i64 t] w (RetEvs (EvP YF z f t) w)) := Lib.hid (fun w h => xEvents_row hYF z A c f t hE w h.1 h.2 hz)
    obtain ⟨hc, f1, hft, t2⟩ := evE_ok hE
    have hOk := ((ckU_zero z).1 hc).2.2.2.2.2
    have hL := ((ckU_zero z).1 hc).1
    have hsm := sta_le (a := f) (b := 10000) (by omega)
    have hsn := staI_min f1
    rw [sta_max] at hsm
    have HH : Hid (∀ w, (KX w ∧ Rd w A (linVs z.lns)) → Calls Tryz.prog 31 #[srcV z A c, .int .i64 (staI f - 1)] w fun e w' => e = .returned (.agg #[.int .i64 (wasT YF z f).1, .bool (wasT YF z f).2.1, .string (bs (wasT YF z f).2.2)]) ∧ Below w.heap.size w w') :=
      Lib.hid (fun w h => by
        have := xHas_any hYF z hOk (by omega) A c (staI f - 1) (by omega) w (kx_md h.1) h.2
        rw [wasT_ah hYF hOk f1] at this
        exact this)
    have HF : Hid (∀ w, (KX w ∧ Rd w A (linVs z.lns)) → Calls Tryz.prog 32 #[.int .i64 f] w fun e w' => e = .returned (.int .i64 (staI f)) ∧ Below w.heap.size w w') := Lib.hid (fun w h => xFirst_any f f1 (by omega) w (kx_md h.1))
    have hCh : Hid (∀ L, EvP YF z f t L → ChP YF z f t (alnL L (wasT YF z f))) := Lib.hid (fun L h => ⟨L, h, rfl⟩)
    have hws : IntKind.i64.wrap (staI f - 1) = staI f - 1 := w64 (by omega) (by omega)
    rw [hE]
    generalize wasT YF z f = was at *
    generalize ChP YF z f t = CP at *
    generalize EvP YF z f t = P at *
    generalize staI f = sf at *
    obtain ⟨nam, off, dst, abb, ls⟩ := z
    unfold srcV at *
    simp only at *
    clear hc hE hOk hK h hz hL hsm hsn
    obtain ⟨i0, hi, hz0, hz1, hz2⟩ := info_parts infoChg
    obtain ⟨h0, h1, h2⟩ := was
    obtain ⟨wv, hwv⟩ : ∃ wv : Tri, Hid (wv = (h0, h1, h2)) := ⟨_, Lib.hid rfl⟩
    rw [← hwv.out] at hCh
    simp only at HH
    go_enter Tryz.func17, Tryz.ntmps17
    go_wp2_with fail
    
    have S0 := Lib.hid (heap_alloc_new w (.cells #[.string (bs nam), .int .i64 off, .bool dst, .string (bs abb), .slice A ls.length c] 30))
    have B0 := Lib.hid ((Below.refl _ w).alloc (Nat.le_refl _) (.cells #[.string (bs nam), .int .i64 off, .bool dst, .string (bs abb), .slice A ls.length c] 30))
    refine (HE.out _ (rdk_keep hM B0.out)).mono ?_
    rintro e w2 ⟨L, g, rfl, hrow, hgw, hP, hlen, hb⟩
    have hP2 := Lib.hid (hCh.out L hP)
    have S1 := Lib.hid (row_call hb S0.out)
    have Bw := Lib.hid (B0.out.trans (hb.mono B0.out.size))
    have hgw2 : w.heap.size + 1 ≤ g := by simpa using hgw
    have hgl : g < w2.heap.size := (Array.getElem?_eq_some_iff.1 hrow).1
    replace hrow := Lib.hid hrow
    obtain ⟨V20, rfl⟩ : ∃ V, V = w2 := ⟨_, rfl⟩
    have hM := Lib.hid (rdk_keep hM Bw.out)
    have B20 := Lib.hid (Below.refl V20.heap.size V20)
    clear hP hCh hb HE S0 B0 hgw
    go_simp
    
    obtain ⟨S1_0, S1_1, S1_2, S1_3, S1_4⟩ := qw5 S1
    have zS1 := lt_of_heap S1.out
    go_wp2_with fail
    clear S1_0 S1_1 S1_2 S1_3 S1_4 zS1
    obtain ⟨W0, hW0⟩ : ∃ W0, W0 = V20 := ⟨_, rfl⟩
    replace S1 := Lib.hid (row_by hW0 S1.out)
    have HB0 := Lib.hid (below_by hW0 (B20.out))
    have HW0 := Lib.hid hW0
    clear hW0
    obtain ⟨S1_0, S1_1, S1_2, S1_3, S1_4⟩ := qw5 S1
    have zS1 := lt_of_heap S1.out
    try rw [← HW0.out]
    go_cut [10, 11] (fun s10 s11 wx => ∃ gH1 : Nat, s10 = .pointer (some ⟨gH1, 0, none⟩) ∧ s11 = .slice (some ⟨g, 0, none⟩) 0 L.length ∧ wx.heap[gH1]? = some (.cells #[.int .i64 h0, .bool h1, .string (bs h2)] 27 (0, 0)) ∧ W0.heap.size ≤ gH1 ∧ Below W0.heap.size W0 wx)
    case first =>
      go_region_held3 (fun w' => Below W0.heap.size W0 w' ∧ w'.cell? ⟨w.heap.size, 0, none⟩ = some (.string (bs nam)) ∧ w'.cell? ⟨w.heap.size, 1, none⟩ = some (.int .i64 off) ∧ w'.cell? ⟨w.heap.size, 2, none⟩ = some (.bool dst) ∧ w'.cell? ⟨w.heap.size, 3, none⟩ = some (.string (bs abb)) ∧ w'.cell? ⟨w.heap.size, 4, none⟩ = some (.slice A ls.length c))
    (first
      | ((try go_split_ands); refine ⟨(Below.refl _ _).drew, ?_, ?_, ?_, ?_, ?_⟩ <;> first | assumption | (rw [World.cell?_drew]; assumption))
      | ((try go_split_ands); refine ⟨keepS (W0 := W0) ?_ hb1, cellS (W0 := W0) ?_ hb1 ?_ ?_, cellS (W0 := W0) ?_ hb1 ?_ ?_, cellS (W0 := W0) ?_ hb1 ?_ ?_, cellS (W0 := W0) ?_ hb1 ?_ ?_, cellS (W0 := W0) ?_ hb1 ?_ ?_⟩ <;> first | assumption | omega)
      | ((try go_split_ands); refine ⟨keepA (W0 := W0) ?_ _, cellA (W0 := W0) ?_ _ ?_ ?_, cellA (W0 := W0) ?_ _ ?_ ?_, cellA (W0 := W0) ?_ _ ?_ ?_, cellA (W0 := W0) ?_ _ ?_ ?_, cellA (W0 := W0) ?_ _ ?_ ?_⟩ <;> first | assumption | omega)
      | ((try go_split_ands); refine ⟨keepAd (W0 := W0) ?_ _, cellAd (W0 := W0) ?_ _ ?_ ?_, cellAd (W0 := W0) ?_ _ ?_ ?_, cellAd (W0 := W0) ?_ _ ?_ ?_, cellAd (W0 := W0) ?_ _ ?_ ?_, cellAd (W0 := W0) ?_ _ ?_ ?_⟩ <;> first | assumption | omega | exact Below.refl _ _)
      | ((try go_split_ands); (with_reducible refine ⟨keep3 (W0 := W0) ?_ ?_ _ _ _, cell3 (W0 := W0) ?_ _ _ _ ?_ ?_, cell3 (W0 := W0) ?_ _ _ _ ?_ ?_, cell3 (W0 := W0) ?_ _ _ _ ?_ ?_, cell3 (W0 := W0) ?_ _ _ _ ?_ ?_, cell3 (W0 := W0) ?_ _ _ _ ?_ ?_⟩) <;> first | assumption | omega | exact Nat.le_refl _)
      | ((try go_split_ands); refine ⟨keep2 (W0 := W0) ?_ ?_ _ _, cell2 (W0 := W0) ?_ _ _ ?_ ?_, cell2 (W0 := W0) ?_ _ _ ?_ ?_, cell2 (W0 := W0) ?_ _ _ ?_ ?_, cell2 (W0 := W0) ?_ _ _ ?_ ?_, cell2 (W0 := W0) ?_ _ _ ?_ ?_⟩ <;> first | assumption | omega | exact Nat.le_refl _)
      | ((try go_split_ands); refine ⟨keepZ (W0 := W0) ?_ ?_ _, cellZ (W0 := W0) ?_ _ ?_ ?_, cellZ (W0 := W0) ?_ _ ?_ ?_, cellZ (W0 := W0) ?_ _ ?_ ?_, cellZ (W0 := W0) ?_ _ ?_ ?_, cellZ (W0 := W0) ?_ _ ?_ ?_⟩ <;> first | assumption | omega | exact Nat.le_refl _ | exact ⟨_, by assumption⟩))
    (first | (go_at_call 32; (with_reducible refine (HF.out _ ?_).mono ?_); (focus (refine rdk_keep (Lib.hid (rdk_keep hM HB0.out)) ?_; first | assumption | (with_reducible exact (Below.refl _ _).drew) | (go_split_ands; done) | ((try go_split_ands); assumption))); rintro e w1 ⟨rfl, hb1⟩; (try go_split_ands); have hge : W0.heap.size ≤ w1.heap.size := (by first | (refine (keepS (W0 := W0) ?_ hb1).size; assumption) | exact (hb1.size : W0.heap.size ≤ w1.heap.size)); (try have hrow := row_call hb1 hrow); (try have hrow := row_new hb1); (try have hrow := row_newd hb1); have hl1 := lt_below hb1; obtain ⟨hc1, hf1⟩ := bcell hb1; (try (have hrc := row_cellA hrow; clear hc1 hf1)); (try have hrf := row_frozA hrow)) | (go_at_call 31; (with_reducible refine (HH.out _ ?_).mono ?_); (focus (refine rdk_keep (Lib.hid (rdk_keep hM HB0.out)) ?_; first | assumption | (with_reducible exact (Below.refl _ _).drew) | (go_split_ands; done) | ((try go_split_ands); assumption))); rintro e w1 ⟨rfl, hb1⟩; (try go_split_ands); have hge : W0.heap.size ≤ w1.heap.size := (by first | (refine (keepS (W0 := W0) ?_ hb1).size; assumption) | exact (hb1.size : W0.heap.size ≤ w1.heap.size)); (try have hrow := row_call hb1 hrow); (try have hrow := row_new hb1); (try have hrow := row_newd hb1); have hl1 := lt_below hb1; obtain ⟨hc1, hf1⟩ := bcell hb1; (try (have hrc := row_cellA hrow; clear hc1 hf1)); (try have hrf := row_frozA hrow)) | (go_at_call 32; refine (HF.out _ (by first | exact rdk_keep (Lib.hid (rdk_keep hM HB0.out)) (by assumption) | exact rdk_keep (Lib.hid (rdk_keep hM HB0.out)) (by (try go_split_ands); assumption) | exact rdk_keep (Lib.hid (rdk_keep hM HB0.out)) (Below.refl _ _).drew)).mono ?_; rintro e w1 ⟨rfl, hb1⟩; (try go_split_ands); have hge : W0.heap.size ≤ w1.heap.size := (by first | (refine (keepS (W0 := W0) ?_ hb1).size; assumption) | exact (hb1.size : W0.heap.size ≤ w1.heap.size)); (try have hrow := row_call hb1 hrow); (try have hrow := row_new hb1); (try have hrow := row_newd hb1); have hl1 := lt_below hb1; obtain ⟨hc1, hf1⟩ := bcell hb1; (try (have hrc := row_cellA hrow; clear hc1 hf1)); (try have hrf := row_frozA hrow)) | (go_at_call 31; refine (HH.out _ (by first | exact rdk_keep (Lib.hid (rdk_keep hM HB0.out)) (by assumption) | exact rdk_keep (Lib.hid (rdk_keep hM HB0.out)) (by (try go_split_ands); assumption) | exact rdk_keep (Lib.hid (rdk_keep hM HB0.out)) (Below.refl _ _).drew)).mono ?_; rintro e w1 ⟨rfl, hb1⟩; (try go_split_ands); have hge : W0.heap.size ≤ w1.heap.size := (by first | (refine (keepS (W0 := W0) ?_ hb1).size; assumption) | exact (hb1.size : W0.heap.size ≤ w1.heap.size)); (try have hrow := row_call hb1 hrow); (try have hrow := row_new hb1); (try have hrow := row_newd hb1); have hl1 := lt_below hb1; obtain ⟨hc1, hf1⟩ := bcell hb1; (try (have hrc := row_cellA hrow; clear hc1 hf1)); (try have hrf := row_frozA hrow)))
      all_goals (try go_split_ands)
      all_goals (go_wp2_with fail; go_meet; refine ⟨_, rfl, rfl, ?_, ?_, ?_⟩)
      all_goals first | (with_reducible assumption) | (with_reducible exact heap_alloc_new _ _) | (with_reducible exact row_set3 (by assumption) _ _ _) | assumption | exact heap_alloc_new _ _ | exact row_set (by assumption) _ _ | omega | (simp; omega)
    case rest =>
      obtain ⟨gH1, rfl, rfl, hH1, lH1, hB⟩ := hcut
      have nS1H1 := Lib.hid (Nat.lt_of_lt_of_le zS1 lH1)
      have LH1 := Lib.hid (Nat.le_trans HB0.out.size lH1)
      clear lH1
      obtain ⟨V21, rfl⟩ : ∃ V, V = wc := ⟨_, rfl⟩
      have H1 := Lib.hid hH1
      clear hH1
      clear S1_0 S1_1 S1_2 S1_3 S1_4 zS1
      replace S1 := Lib.hid (row_call hB S1.out)
      have B21 := Lib.hid (HB0.out.trans (hB.mono HB0.out.size))
      clear hB
      obtain ⟨S1_0, S1_1, S1_2, S1_3, S1_4⟩ := qw5 S1
      have zS1 := lt_of_heap S1.out
      obtain ⟨H1_0, H1_1, H1_2⟩ := qw3 H1
      have H1_f0 : V21.frozen? ⟨gH1, 0, none⟩ = false := (by simp [World.frozen?, H1.out])
      have H1_f1 : V21.frozen? ⟨gH1, 1, none⟩ = false := (by simp [World.frozen?, H1.out])
      have H1_f2 : V21.frozen? ⟨gH1, 2, none⟩ = false := (by simp [World.frozen?, H1.out])
      have zH1 := lt_of_heap H1.out
      have hrow1 := Lib.hid ((B21.out.block g hgl).trans hrow.out)
      have Lg : g < gH1 := Nat.lt_of_lt_of_le hgl LH1.out
      have Lw : w.heap.size < gH1 := by omega
      have Bw1 := Lib.hid (Bw.out.trans (B21.out.mono Bw.out.size))
      clear hrow S1_0 S1_1 S1_2 S1_3 S1_4
      go_wp2
      go_loopw [11, 33] (fun cv iv wr => ∃ (i : Nat) (X : List Chg), i ≤ L.length ∧ iv = .int .i64 (i : Int) ∧ cv = .slice (some ⟨g, 0, none⟩) (alnL (L.take i) wv).length L.length ∧ Hid (Below w.heap.size w wr) ∧ Hid (wr.heap[gH1]? = some (.cells #[.int .i64 (lastT (L.take i) wv).1, .bool (lastT (L.take i) wv).2.1, .string (bs (lastT (L.take i) wv).2.2)] 27 (0, 0))) ∧ Hid (wr.heap[g]? = some (.cells (chgVs X).toArray 48 (0, 0))) ∧ X.length = L.length ∧ Hid ((∀ q, i ≤ q → q < L.length → X[q]! = L[q]!) ∧ (∀ q, q < (alnL (L.take i) wv).length → X[q]! = (alnL (L.take i) wv)[q]!))) (fun _ iv _ => L.length - (intOf iv).toNat)
      case atStart =>
        refine ⟨0, L, by omega, rfl, rfl, Bw1, Lib.hid ?_, hrow1, rfl, Lib.hid ⟨fun q _ _ => rfl, fun q hq => absurd hq (by show ¬ q < 0; omega)⟩⟩
        show _ = some (Obj.cells #[.int .i64 wv.1, .bool wv.2.1, .string (bs wv.2.2)] _ _)
        rw [hwv.out]
        exact H1.out
      case round =>
        obtain ⟨i, X, hi2, rfl, rfl, hBw, H2, hX, hXl, hXX⟩ := hrel
        obtain ⟨V20, rfl⟩ : ∃ V, V = wr := ⟨_, rfl⟩
        clear H1 H1_0 H1_1 H1_2 hrow1 Bw1
        by_cases hlt : i < L.length
        · obtain ⟨b, o, hbo, hbl, hc⟩ := (rd_exact hX.out).chg (k := i) (by omega)
          obtain ⟨rfl, rfl⟩ : g = b ∧ 0 = o := by simpa using hbo
          obtain ⟨k0, k1, k2, k3⟩ := hc i (by omega)
          have hXi := hXX.out.1 i (Nat.le_refl _) hlt
          rw [getElem!_pos X i (by omega), getElem!_pos L i hlt] at hXi
          rw [hXi] at k0 k1 k2 k3
          have hsame := aln_same (was := wv) hlt
          have hmore := aln_more (was := wv) hlt
          have hnext := Lib.hid (last_next (was := wv) hlt)
          have hal := alnL_len (L.take i) wv
          rw [List.length_take] at hal
          rw [show 0 + i * 4 = i * 4 by omega] at k0 k1 k2 k3
          generalize L[i] = e at *
          obtain ⟨cs, t0, t1, t2⟩ := e
          generalize hT : lastT (L.take i) wv = T at *
          replace hT := Lib.hid hT
          obtain ⟨a0, a1, a2⟩ := T
          obtain ⟨M, hM2⟩ : ∃ M, alnL (L.take i) wv = M := ⟨_, rfl⟩
          rw [hM2] at hsame hmore hal hXX
          simp only at k0 k1 k2 k3 hnext hsame hmore
          have d3 : (i : Int) < (L.length : Int) := by omega
          clear hc hbo
          have hgl2 : g < V20.heap.size := hbl
          have B20 := Lib.hid (Below.refl V20.heap.size V20)
          have zH2 := lt_of_heap H2.out
          
          obtain ⟨H2_0, H2_1, H2_2⟩ := qw3 H2
          have zH2 := lt_of_heap H2.out
          rw [hM2]
          
          by_cases q0 : (t0, t1, t2) = (a0, a1, a2)
          · obtain ⟨rfl, rfl, rfl⟩ : t0 = a0 ∧ t1 = a1 ∧ t2 = a2 := by simpa using q0
            have E := Lib.hid (hsame rfl)
            clear q0 hsame hmore
            
            have rH2 := setRow_heap (V20.alloc (Obj.cells #[Value.int .i64 cs, Value.int .i64 t0, Value.bool t1, Value.string (bs t2)] 48)) (gH1) _ #[Value.int .i64 t0, Value.bool t1, Value.string (bs t2)] _ _ (row_alloc H2.out _)
            obtain ⟨rH2_0, rH2_1, rH2_2⟩ := qv3 rH2
            go_wp2_with (refine wpList_store_row (by rfl) 27 _ _ (by rfl) (gH1) #[Value.int .i64 t0, Value.bool t1, Value.string (bs t2)] (by rfl) (by rfl) _ _ (row_alloc H2.out _) (by kernel_rfl) (by rfl) (by simp [Value.oneCell']) ?_)
            go_roundw
            case rel => exact ⟨i + 1, X, by omega, by go_num, by rw [E.out], Lib.hid (keepRow (hBw.out.alloc hBw.out.size _) (by omega) _), Lib.hid (by rw [hnext.out]; exact rH2), Lib.hid (row_otherR (by omega) (row_alloc hX.out _) _), hXl, Lib.hid ⟨fun q h1 h2 => hXX.out.1 q (by omega) h2, by rw [E.out]; exact hXX.out.2⟩⟩
            case measure => simp [intOf]; omega
          · have E := Lib.hid (hmore (by simpa using q0))
            clear hsame hmore
            
            have hnw : ∀ j u, (chgV (cs, t0, t1, t2))[j]? = some u → ((V20.alloc (Obj.cells #[.int .i64 cs, .int .i64 t0, .bool t1, .string (bs t2)] 48)).alloc (Obj.cells #[.int .i64 cs, .int .i64 t0, .bool t1, .string (bs t2)] 48)).cell? ((⟨V20.heap.size + 1, 0, none⟩ : Addr).add j) = some u := by
              have := World.news_of_block (w := (V20.alloc (Obj.cells #[.int .i64 cs, .int .i64 t0, .bool t1, .string (bs t2)] 48)).alloc (Obj.cells #[.int .i64 cs, .int .i64 t0, .bool t1, .string (bs t2)] 48)) (cs := #[.int .i64 cs, .int .i64 t0, .bool t1, .string (bs t2)]) (heap_alloc_new (V20.alloc (Obj.cells #[.int .i64 cs, .int .i64 t0, .bool t1, .string (bs t2)] 48)) (Obj.cells #[.int .i64 cs, .int .i64 t0, .bool t1, .string (bs t2)] 48))
              rw [show (V20.alloc (Obj.cells #[.int .i64 cs, .int .i64 t0, .bool t1, .string (bs t2)] 48)).heap.size = V20.heap.size + 1 by simp] at this
              exact this
            have hap2 : ∀ ty, (Builtin.append_ #[44, 44] ty #[.slice (some ⟨g, 0, none⟩) M.length L.length, .slice (some ⟨V20.heap.size + 1, 0, none⟩) 1 1]).run Tryz.prog ((V20.alloc (Obj.cells #[.int .i64 cs, .int .i64 t0, .bool t1, .string (bs t2)] 48)).alloc (Obj.cells #[.int .i64 cs, .int .i64 t0, .bool t1, .string (bs t2)] 48)) = .ok (.slice (some ⟨g, 0, none⟩) (M.length + 1) L.length) (((V20.alloc (Obj.cells #[.int .i64 cs, .int .i64 t0, .bool t1, .string (bs t2)] 48)).alloc (Obj.cells #[.int .i64 cs, .int .i64 t0, .bool t1, .string (bs t2)] 48)).setRow g (chgVs (X.set M.length (cs, t0, t1, t2))).toArray) := fun ty => by
              have := run_append_room (P := Tryz.prog) ((V20.alloc (Obj.cells #[.int .i64 cs, .int .i64 t0, .bool t1, .string (bs t2)] 48)).alloc (Obj.cells #[.int .i64 cs, .int .i64 t0, .bool t1, .string (bs t2)] 48)) 44 ty 48 i0 Tryz.underlying44 hi g M.length L.length (chgVs X).toArray (row_alloc (row_alloc hX.out _) _) ⟨V20.heap.size + 1, 0, none⟩ 1 1 (chgV (cs, t0, t1, t2)) (by rw [hz1]; rfl) hnw (by intro u hu; simp [chgV] at hu; rcases hu with rfl | rfl | rfl | rfl <;> rfl) (by omega) (by rw [hz1]; simp [chgVs_len, chgV]; omega)
              rw [hz1] at this
              rw [this, chgVs_set X M.length _ (by omega)]
            obtain ⟨V9, hV9⟩ : ∃ V, V = ((V20.alloc (Obj.cells #[.int .i64 cs, .int .i64 t0, .bool t1, .string (bs t2)] 48)).alloc (Obj.cells #[.int .i64 cs, .int .i64 t0, .bool t1, .string (bs t2)] 48)).setRow g (chgVs (X.set M.length (cs, t0, t1, t2))).toArray := ⟨_, rfl⟩
            have HV9 := Lib.hid hV9
            have hB9 : Hid (Below w.heap.size w V9) := Lib.hid (by rw [hV9]; exact keepRow ((hBw.out.alloc hBw.out.size _).alloc (by have := hBw.out.size; simp; omega) _) (by omega) _)
            have hC9 : V9.heap[V20.heap.size]? = some (Obj.cells #[.int .i64 cs, .int .i64 t0, .bool t1, .string (bs t2)] 48) := by rw [hV9]; exact row_otherR (by omega) (row_alloc (heap_alloc_new V20 _) _) _
            have hH9 : Hid (V9.heap[gH1]? = some (.cells #[.int .i64 a0, .bool a1, .string (bs a2)] 27 (0, 0))) := Lib.hid (by rw [hV9]; exact row_otherR (by omega) (row_alloc (row_alloc H2.out _) _) _)
            have hX9 : Hid (V9.heap[g]? = some (.cells (chgVs (X.set M.length (cs, t0, t1, t2))).toArray 48 (0, 0))) := Lib.hid (by rw [hV9]; exact setRow_heap _ g _ _ _ _ (row_alloc (row_alloc hX.out _) _))
            have m1 : V9.cell? ⟨V20.heap.size, 1, none⟩ = some (.int .i64 t0) := cry hC9
            have m2 : V9.cell? ⟨V20.heap.size, 2, none⟩ = some (.bool t1) := cry hC9
            have m3 : V9.cell? ⟨V20.heap.size, 3, none⟩ = some (.string (bs t2)) := cry hC9
            have hXY : Hid ((∀ q, i + 1 ≤ q → q < L.length → (X.set M.length (cs, t0, t1, t2))[q]! = L[q]!) ∧ (∀ q, q < (alnL (L.take (i + 1)) wv).length → (X.set M.length (cs, t0, t1, t2))[q]! = (alnL (L.take (i + 1)) wv)[q]!)) := Lib.hid ⟨fun q h1 h2 => by
              rw [set_at (by omega) (by omega), if_neg (by omega)]
              exact hXX.out.1 q (by omega) h2, fun q hq => by
              rw [E.out] at hq ⊢
              rw [List.length_append, List.length_singleton] at hq
              rw [set_at (by omega) (by omega), app_at hq]
              by_cases e : q = M.length
              · rw [if_pos e, if_pos e]
              · rw [if_neg e, if_neg e]; exact hXX.out.2 q (by omega)⟩
            clear hV9 hC9 hnw
            by_cases p0 : t0 = a0
            · subst p0
              by_cases p1 : t1 = a1
              · subst p1
                have p2 : ¬ (bs t2).toList = (bs a2).toList := fun e => q0 (by rw [bs_list, bs_list] at e; rw [e])
                clear q0
                generalize bs a2 = sa at *
                go_wp2_with (first
                  | (at_builtin
                     refine wpList_append_here rfl (.tmp 41) (.tmp 43) 44 rfl _ _ _ _ _ rfl rfl (hap2 _) ?_
                     rw [← HV9.out])
                  | (refine wpList_store_row (by rfl) 27 _ _ (by rfl) gH1 #[.int .i64 t0, .bool t1, .string (bs t2)] (by rfl) (by rfl) _ _ hH9.out (by kernel_rfl) (by rfl) (by simp [Value.oneCell']) ?_))
                go_roundw
                case rel => exact ⟨i + 1, X.set M.length (cs, t0, t1, t2), by omega, by go_num, by rw [E.out, List.length_append]; rfl, Lib.hid (keepRow hB9.out (by omega) _), Lib.hid (by rw [hnext.out]; exact setRow_heap V9 gH1 _ _ _ _ hH9.out), Lib.hid (row_otherR (by omega) hX9.out _), by simp [hXl], hXY⟩
                case measure => simp [intOf]; omega
              · have p1b : (t1 == a1) = false := beq_false_of_ne p1
                clear q0
                go_wp2_with (first
                  | (at_builtin
                     refine wpList_append_here rfl (.tmp 41) (.tmp 43) 44 rfl _ _ _ _ _ rfl rfl (hap2 _) ?_
                     rw [← HV9.out])
                  | (refine wpList_store_row (by rfl) 27 _ _ (by rfl) gH1 #[.int .i64 t0, .bool t1, .string (bs t2)] (by rfl) (by rfl) _ _ hH9.out (by kernel_rfl) (by rfl) (by simp [Value.oneCell']) ?_))
                go_roundw
                case rel => exact ⟨i + 1, X.set M.length (cs, t0, t1, t2), by omega, by go_num, by rw [E.out, List.length_append]; rfl, Lib.hid (keepRow hB9.out (by omega) _), Lib.hid (by rw [hnext.out]; exact setRow_heap V9 gH1 _ _ _ _ hH9.out), Lib.hid (row_otherR (by omega) hX9.out _), by simp [hXl], hXY⟩
                case measure => simp [intOf]; omega
            · have p0b : (t0 == a0) = false := beq_false_of_ne p0
              clear q0
              go_wp2_with (first
                | (at_builtin
                   refine wpList_append_here rfl (.tmp 41) (.tmp 43) 44 rfl _ _ _ _ _ rfl rfl (hap2 _) ?_
                   rw [← HV9.out])
                | (refine wpList_store_row (by rfl) 27 _ _ (by rfl) gH1 #[.int .i64 t0, .bool t1, .string (bs t2)] (by rfl) (by rfl) _ _ hH9.out (by kernel_rfl) (by rfl) (by simp [Value.oneCell']) ?_))
              go_roundw
              case rel => exact ⟨i + 1, X.set M.length (cs, t0, t1, t2), by omega, by go_num, by rw [E.out, List.length_append]; rfl, Lib.hid (keepRow hB9.out (by omega) _), Lib.hid (by rw [hnext.out]; exact setRow_heap V9 gH1 _ _ _ _ hH9.out), Lib.hid (row_otherR (by omega) hX9.out _), by simp [hXl], hXY⟩
              case measure => simp [intOf]; omega
        · obtain rfl : i = L.length := by omega
          have hkT : ¬ ((L.length : Int) < (L.length : Int)) := by omega
          rw [List.take_length] at hXX
          have hfin : Hid (Rd V20 (some ⟨g, 0, none⟩) (chgVs (alnL L wv))) := Lib.hid (rd_head (rd_exact hX.out) (by have := alnL_len L wv; omega) hXX.out.2)
          have hal := alnL_len L wv
          rw [List.take_length]
          clear hlt
          go_wp2
          go_ret2
          exact ⟨alnL L wv, some ⟨g, 0, none⟩, L.length, rfl, hfin.out, hP2.out, by omega, hBw.out⟩
  · have HE : Hid (∀ w, (KX w ∧ Rd w A (linVs z.lns)) → Calls Tryz.prog 30 #[srcV z A c, .int .i64 f, .int .i64 t] w fun e w' => e = .returned (.tuple #[.slice none 0 0, .int .i64 (evE z f t)]) ∧ Below w.heap.size w w') := Lib.hid (fun w h => xEvents_no z A c f t hE w h.1 h.2 hz)
    have hP : Hid (ChP YF z f t []) := Lib.hid ⟨[], evP_no hE, rfl⟩
    have f0 : (evE z f t != 0) = true := bne_iff_ne.2 hE
    generalize ChP YF z f t = CP at *
    generalize evE z f t = C at *
    obtain ⟨nam, off, dst, abb, ls⟩ := z
    unfold srcV at *
    simp only at *
    clear hE hK h hz
    go_enter Tryz.func17, Tryz.ntmps17
    go_wp2_with fail
    
    refine (HE.out _ (by first | exact rdk_keep hM ((Below.refl w.heap.size w).alloc (Nat.le_refl _) _))).mono ?_
    rintro e V1 ⟨rfl, hb1⟩
    have B1 := nby hb1
    have S1 := Lib.hid (row_call hb1 (heap_alloc_new _ _))
    clear hb1
    obtain ⟨S1_0, S1_1, S1_2, S1_3, S1_4⟩ := qw5 S1
    have zS1 := lt_of_heap S1.out
    go_simp
    go_wp2
    go_ret2
    exact ⟨[], none, 0, rfl, fun j u hu => by simp [chgVs] at hu, hP.out, by simp, B1.out⟩
end Go.Proofs.YtafecnlaodgmkaaGreatDoor
