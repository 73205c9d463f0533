/- Several texts in one: EpL, EpO, EpQ. -/
import Derived.Test.YtacpcjdiljnlaaaGreatDoorY2Sm
import Derived.Test.YtacpcjdiljnlaaaGreatDoorY2Pkg1
import Derived.Test.YtacpcjdiljnlaaaGreatDoorY2Ref1
import Derived.Test.YtacpcjdiljnlaaaGreatDoorY2Ep2
import Derived.Laws.MakeOwn
import Derived.StillTailTactics
namespace Go.Proofs.YtacpcjdiljnlaaaGreatDoor
set_option linter.unusedVariables false
set_option linter.unusedSimpArgs false
open Go.ChangeShapes Go.WideShapes Go.ChangeAt Go.RowKit
structure RowC (w : World) (g : Nat) (E : Array Chg) : Prop where
  lt : g < w.heap.size
  c0 : ∀ i, i < E.size → w.cell? ⟨g, i * 4, none⟩ = some (.int .i64 E[i]!.1)
  c1 : ∀ i, i < E.size → w.cell? ⟨g, i * 4 + 1, none⟩ = some (.int .i64 E[i]!.2.1)
  c2 : ∀ i, i < E.size → w.cell? ⟨g, i * 4 + 2, none⟩ = some (.bool E[i]!.2.2.1)
  c3 : ∀ i, i < E.size → w.cell? ⟨g, i * 4 + 3, none⟩ = some (.string (bs E[i]!.2.2.2))
  fz : ∀ c, w.frozen? ⟨g, c, none⟩ = false
  sh : ∃ cur, w.heap[g]? = some (.cells cur 44 (0, 0)) ∧ cur.size = E.size * 4
theorem RowC.below {w w' : World} {g n : Nat} {E : Array Chg} (h : RowC w g E) (hb : Below n w w') (hn : g < n) : RowC w' g E :=
  ⟨Nat.lt_of_lt_of_le h.lt hb.size, fun i hi => (hb.cell (p := ⟨g, i * 4, none⟩) hn).trans (h.c0 i hi), fun i hi => (hb.cell (p := ⟨g, i * 4 + 1, none⟩) hn).trans (h.c1 i hi), fun i hi => (hb.cell (p := ⟨g, i * 4 + 2, none⟩) hn).trans (h.c2 i hi), fun i hi => (hb.cell (p := ⟨g, i * 4 + 3, none⟩) hn).trans (h.c3 i hi),
    fun c => (hb.frozen (p := ⟨g, c, none⟩) hn).trans (h.fz c), by obtain ⟨cur, h1, h2⟩ := h.sh; exact ⟨cur, (hb.block g hn).trans h1, h2⟩⟩
theorem sc_heap {w : World} {g o : Nat} {v : Value} {cur : Array Value} {e : TypeId} {fz : Nat × Nat} (h : w.heap[g]? = some (.cells cur e fz)) : (w.setCell ⟨g, o, none⟩ v).heap[g]? = some (.cells (cur.setIfInBounds o v) e fz) := by
  rw [Go.Sort.setCell_eq]
  simp [Go.Sort.mapBlock, Go.Sort.onCells, Array.getElem?_modify, h]
def put4 (w : World) (g o : Nat) (x : Chg) : World := (((w.setCell ⟨g, o, none⟩ (.int .i64 x.1)).setCell ⟨g, o + 1, none⟩ (.int .i64 x.2.1)).setCell ⟨g, o + 2, none⟩ (.bool x.2.2.1)).setCell ⟨g, o + 3, none⟩ (.string (bs x.2.2.2))
theorem put4_other {w : World} {g o b : Nat} {x : Chg} (h : b < o ∨ o + 3 < b) : (put4 w g o x).cell? ⟨g, b, none⟩ = w.cell? ⟨g, b, none⟩ := by
  unfold put4
  rw [sc_other (by omega), sc_other (by omega), sc_other (by omega), sc_other (by omega)]
theorem put4_size (w : World) (g o : Nat) (x : Chg) : (put4 w g o x).heap.size = w.heap.size := by unfold put4; simp [World.setCell]
theorem put4_below {B g : Nat} {a w : World} (h : Below B a w) (hg : B ≤ g) (o : Nat) (x : Chg) : Below B a (put4 w g o x) :=
  (((h.setCell (p := ⟨g, o, none⟩) hg _).setCell (p := ⟨g, o + 1, none⟩) hg _).setCell (p := ⟨g, o + 2, none⟩) hg _).setCell (p := ⟨g, o + 3, none⟩) hg _
theorem RowC.set {w : World} {g k : Nat} {E : Array Chg} (h : RowC w g E) (hk : k < E.size) (x : Chg) : RowC (put4 w g (k * 4) x) g (E.setIfInBounds k x) := by
  have hs : (E.setIfInBounds k x).size = E.size := by simp
  have h0 := h.c0 k hk
  have h1 := h.c1 k hk
  have h2 := h.c2 k hk
  have h3 := h.c3 k hk
  have e0 : (put4 w g (k * 4) x).cell? ⟨g, k * 4, none⟩ = some (.int .i64 x.1) := by
    unfold put4; rw [sc_other (by omega), sc_other (by omega), sc_other (by omega), sc_same h0]
  have e1 : (put4 w g (k * 4) x).cell? ⟨g, k * 4 + 1, none⟩ = some (.int .i64 x.2.1) := by
    unfold put4; rw [sc_other (by omega), sc_other (by omega), sc_same ((sc_other (by omega)).trans h1)]
  have e2 : (put4 w g (k * 4) x).cell? ⟨g, k * 4 + 2, none⟩ = some (.bool x.2.2.1) := by
    unfold put4; rw [sc_other (by omega), sc_same ((sc_other (by omega)).trans ((sc_other (by omega)).trans h2))]
  have e3 : (put4 w g (k * 4) x).cell? ⟨g, k * 4 + 3, none⟩ = some (.string (bs x.2.2.2)) := by
    unfold put4; rw [sc_same ((sc_other (by omega)).trans ((sc_other (by omega)).trans ((sc_other (by omega)).trans h3)))]
  refine ⟨by rw [put4_size]; exact h.lt, fun i hi => ?_, fun i hi => ?_, fun i hi => ?_, fun i hi => ?_, fun c => by unfold put4; rw [World.frozen?_setCell, World.frozen?_setCell, World.frozen?_setCell, World.frozen?_setCell]; exact h.fz c, ?_⟩
  · rw [hs] at hi
    by_cases e : i = k
    · subst e
      rw [Go.Sort.getElem!_set_same E i x hi]
      exact e0
    · rw [put4_other (by omega), Go.Sort.getElem!_set_other E k i x e]
      exact h.c0 i hi
  · rw [hs] at hi
    by_cases e : i = k
    · subst e
      rw [Go.Sort.getElem!_set_same E i x hi]
      exact e1
    · rw [put4_other (by omega), Go.Sort.getElem!_set_other E k i x e]
      exact h.c1 i hi
  · rw [hs] at hi
    by_cases e : i = k
    · subst e
      rw [Go.Sort.getElem!_set_same E i x hi]
      exact e2
    · rw [put4_other (by omega), Go.Sort.getElem!_set_other E k i x e]
      exact h.c2 i hi
  · rw [hs] at hi
    by_cases e : i = k
    · subst e
      rw [Go.Sort.getElem!_set_same E i x hi]
      exact e3
    · rw [put4_other (by omega), Go.Sort.getElem!_set_other E k i x e]
      exact h.c3 i hi
  · obtain ⟨cur, h4, h5⟩ := h.sh
    exact ⟨_, sc_heap (sc_heap (sc_heap (sc_heap h4))), by simp [h5]⟩
theorem chgVs_len (T : List Chg) : (chgVs T).length = T.length * 4 := by
  induction T with
  | nil => rfl
  | cons x T ih =>
    unfold chgVs at *
    rw [List.flatMap_cons, List.length_append, ih, List.length_cons]
    show 4 + T.length * 4 = _
    omega
theorem RowC.rd {w : World} {g : Nat} {E : Array Chg} (h : RowC w g E) {L : List Chg} (hs : L.length ≤ E.size) (hl : ∀ i, i < L.length → E[i]! = L[i]!) : Rd w (some ⟨g, 0, none⟩) (chgVs L) := by
  intro j u hu
  refine ⟨g, 0, rfl, h.lt, ?_⟩
  have hj : j < L.length * 4 := by
    have := (List.getElem?_eq_some_iff.1 hu).1
    rwa [chgVs_len] at this
  have hd : j = j / 4 * 4 + j % 4 := by omega
  have hi : j / 4 < L.length := by omega
  have hat := chgVs_at L (j / 4) hi (j % 4) (by omega)
  rw [← hd, hu] at hat
  have h0 := h.c0 (j / 4) (by omega)
  have h1 := h.c1 (j / 4) (by omega)
  have h2 := h.c2 (j / 4) (by omega)
  have h3 := h.c3 (j / 4) (by omega)
  rw [hl _ hi, getElem!_pos L (j / 4) hi] at h0 h1 h2 h3
  have hm : j % 4 = 0 ∨ j % 4 = 1 ∨ j % 4 = 2 ∨ j % 4 = 3 := by omega
  rcases hm with e | e | e | e
  · rw [e] at hat
    obtain rfl : u = .int .i64 L[j / 4].1 := by simpa [chgV] using hat
    rw [show 0 + j = j / 4 * 4 by omega]; exact h0
  · rw [e] at hat
    obtain rfl : u = .int .i64 L[j / 4].2.1 := by simpa [chgV] using hat
    rw [show 0 + j = j / 4 * 4 + 1 by omega]; exact h1
  · rw [e] at hat
    obtain rfl : u = .bool L[j / 4].2.2.1 := by simpa [chgV] using hat
    rw [show 0 + j = j / 4 * 4 + 2 by omega]; exact h2
  · rw [e] at hat
    obtain rfl : u = .string (bs L[j / 4].2.2.2) := by simpa [chgV] using hat
    rw [show 0 + j = j / 4 * 4 + 3 by omega]; exact h3
theorem RowC.exact {w : World} {g : Nat} {E : Array Chg} (h : RowC w g E) : w.heap[g]? = some (.cells (chgVs E.toList).toArray 44 (0, 0)) := by
  obtain ⟨cur, h1, h2⟩ := h.sh
  have hr := RowC.rd h (L := E.toList) (by simp) (fun i hi => by rw [getElem!_pos E i (by simpa using hi), getElem!_pos E.toList i hi]; simp)
  rw [h1]
  congr 2
  apply Array.ext_getElem?
  intro j
  by_cases hj : j < E.size * 4
  · have hl : (chgVs E.toList).length = E.size * 4 := by rw [chgVs_len]; simp
    have h3 := hr.at_ (A := some ⟨g, 0, none⟩) rfl (List.getElem?_eq_getElem (l := chgVs E.toList) (i := j) (by omega))
    rw [Nat.zero_add] at h3
    unfold World.cell? at h3
    rw [h1] at h3
    simp only [Option.isSome_none, Bool.false_eq_true, if_false] at h3
    rw [h3]
    simp
  · have hl : (chgVs E.toList).length = E.size * 4 := by rw [chgVs_len]; simp
    rw [Array.getElem?_eq_none (by omega), Array.getElem?_eq_none (by simp; omega)]
theorem frz_row {V : World} {g : Nat} {cs : Array Value} {t : TypeId} (h : V.heap[g]? = some (.cells cs t (0, 0))) (c : Nat) : V.frozen? ⟨g, c, none⟩ = false := by simp [World.frozen?, h]
theorem infoChg : (Tryz.prog.info? 44).map (fun i => (i.zero, i.size, i.bytes)) = some (some (.agg #[.int .i64 0, .int .i64 0, .bool false, .string ⟨#[]⟩]), 4, 40) := by kernel_rfl
theorem make_chg (n : Nat) (hn : n ≤ 1000000) : ∃ ZC : Array Value, (∀ W : World, (Instr.makeSlice 39 (.int .i64 (n : Int)) (.int .i64 (n : Int))).run Tryz.prog W = .ok (.slice (some ⟨W.heap.size, 0, none⟩) n n) (W.alloc (.cells ZC 44))) ∧
    ∀ W : World, RowC (W.alloc (.cells ZC 44)) W.heap.size (Array.replicate n (0, 0, false, [])) := by
  obtain ⟨i0, hi, hz0, hz1, hz2⟩ := info_parts infoChg
  refine ⟨madeCells #[.int .i64 0, .int .i64 0, .bool false, .string ⟨#[]⟩] (n * 4), fun W => ?_, fun W => ?_⟩
  · have := run_make (P := Tryz.prog) W 39 44 i0 _ Tryz.underlying39 hi hz0 .i64 .i64 (n : Int) (n : Int) (by omega) (Int.le_refl _) (by rw [hz2]; omega) (by omega)
    rw [Int.toNat_natCast, hz1] at this
    exact this
  · have hrow := heap_alloc_new W (.cells (madeCells #[.int .i64 0, .int .i64 0, .bool false, .string ⟨#[]⟩] (n * 4)) 44)
    have hb : bs [] = ⟨#[]⟩ := by unfold bs; rfl
    have key : ∀ q, q < n * 4 → (W.alloc (.cells (madeCells #[.int .i64 0, .int .i64 0, .bool false, .string ⟨#[]⟩] (n * 4)) 44)).cell? ⟨W.heap.size, q, none⟩ = some ((#[.int .i64 0, .int .i64 0, .bool false, .string ⟨#[]⟩] : Array Value)[q % 4]!) := by
      intro q hq
      unfold World.cell?
      rw [hrow]
      simp [madeCells, hq]
    have hd : ∀ i, i < n → (Array.replicate n ((0, 0, false, []) : Chg))[i]! = (0, 0, false, []) := by
      intro i hi
      rw [getElem!_pos _ i (by simpa using hi)]
      simp
    refine ⟨by simp, fun i hi => ?_, fun i hi => ?_, fun i hi => ?_, fun i hi => ?_, fun c => frz_row hrow c, ⟨_, hrow, by simp [madeCells]⟩⟩
    all_goals
      have hi2 : i < n := by simpa using hi
      rw [hd i hi2, key _ (by omega)]
    · rw [show i * 4 % 4 = 0 by omega]; rfl
    · rw [show (i * 4 + 1) % 4 = 1 by omega]; rfl
    · rw [show (i * 4 + 2) % 4 = 2 by omega]; rfl
    · rw [show (i * 4 + 3) % 4 = 3 by omega, hb]; rfl
end Go.Proofs.YtacpcjdiljnlaaaGreatDoor
namespace Go.Proofs.YtacpcjdiljnlaaaGreatDoor
set_option linter.unusedVariables false
set_option linter.unusedSimpArgs false
open Go.ChangeShapes Go.WideShapes Go.ChangeAt Go.RowKit
theorem evE_ok {z : Src} {f t : Int} (h : evE z f t = 0) : ckU z = 0 ∧ -9999 ≤ f ∧ f ≤ t ∧ t ≤ 9999 := by
  unfold evE at h
  split at h
  · rename_i k
    split at h
    · cases h
    · exact absurd h k
  · rename_i k
    split at h
    · cases h
    · split at h
      · cases h
      · exact ⟨Classical.not_not.1 k, by omega, by omega, by omega⟩
theorem evP_no {YF : Int → Int} {z : Src} {f t : Int} (h : evE z f t ≠ 0) : EvP YF z f t [] := by unfold EvP; rw [if_neg h]
theorem evP_yes {YF : Int → Int} {z : Src} {f t : Int} {L : List Chg} (h : evE z f t = 0) (k : IsEv YF z.lns (staI f) (endI t) L) : EvP YF z f t L := by unfold EvP; rw [if_pos h]; exact k
theorem chgM_at {ls : List Lin} {m : Mom} {q : Nat} (hq : q < ls.length) (h : m.2 = (q : Int)) : chgM ls m = (m.1, triOf ls[q]) := by
  unfold chgM
  rw [h, Int.toNat_natCast, List.getElem?_eq_getElem hq]
  rfl
def RetEvs (P : List Chg → Prop) (w : World) (r : Ending) (w' : World) : Prop :=
  ∃ (L : List Chg) (g : Nat), r = .returned (.tuple #[.slice (some ⟨g, 0, none⟩) L.length L.length, .int .i64 0]) ∧ w'.heap[g]? = some (.cells (chgVs L).toArray 44 (0, 0)) ∧ w.heap.size ≤ g ∧ P L ∧ L.length ≤ 1000000 ∧ Below w.heap.size w w'
theorem rd_exact {w : World} {g : Nat} {L : List Chg} (h : w.heap[g]? = some (.cells (chgVs L).toArray 44 (0, 0))) : Rd w (some ⟨g, 0, none⟩) (chgVs L) := by
  intro j u hu
  refine ⟨g, 0, rfl, (Array.getElem?_eq_some_iff.1 h).1, ?_⟩
  unfold World.cell?
  rw [h]
  simp [hu]
set_option maxHeartbeats 12800000 in
set_option maxRecDepth 100000 in
theorem xEvents_row {YF : Int → Int} (hYF : ∀ S, YIs S (YF S)) (z : Src) (A : Option Addr) (c : Nat) (f t : Int) (hE : evE z f t = 0) (w : World) (hK : KX w) (h : Rd w A (linVs z.lns)) (hz : SB z) :
    Calls Tryz.prog 13 #[srcV z A c, .int .i64 f, .int .i64 t] w (RetEvs (EvP YF z f t) w) := by
  have hM : Hid (KX w ∧ Rd w A (linVs z.lns)) := Lib.hid ⟨hK, h⟩
  have HC : Hid (∀ w, (KX w ∧ Rd w A (linVs z.lns)) → Calls Tryz.prog 25 #[srcV z A c, .int .i64 f, .int .i64 t] w fun e w' => e = .returned (.int .i64 (evE z f t)) ∧ Below w.heap.size w w') := Lib.hid (fun w h => xCheckYears_any z A c f t w h.1 h.2 hz)
  · obtain ⟨hc, f1, hft, t2⟩ := evE_ok hE
    have hOk := ((ckU_zero z).1 hc).2.2.2.2.2
    have hL := ((ckU_zero z).1 hc).1
    have HMW : Hid (∀ w, (KX w ∧ Rd w A (linVs z.lns)) → Calls Tryz.prog 26 #[.slice A z.lns.length c, .int .i64 f, .int .i64 t] w fun e w' => (∃ (D : Array Mom) (A2 : Option Addr) (c2 : Nat), e = .returned (.slice A2 (onceL D D.size).length c2) ∧ Rd w' A2 (momVs (onceL D D.size)) ∧ (∀ m, m ∈ D.toList ↔ m ∈ allM YF (staI f) (staI (t + 1)) z.lns (f - 1) (t - f + 3).toNat) ∧ SrtM D ∧ D.size ≤ 1000000) ∧ Below w.heap.size w w') :=
      Lib.hid (fun w h => xMoments_any hYF z.lns hOk hL A c f t f1 hft t2 w (kx_md h.1) h.2)
    have HEV : Hid (∀ D : Array Mom, (∀ m, m ∈ D.toList ↔ m ∈ allM YF (staI f) (staI (t + 1)) z.lns (f - 1) (t - f + 3).toNat) → SrtM D → EvP YF z f t ((onceL D D.size).map (chgM z.lns)) ∧ ∀ i, i < (onceL D D.size).length → ∃ (q : Nat) (hq : q < z.lns.length), (onceL D D.size)[i]!.2 = (q : Int)) := Lib.hid (fun D hm hS => by
      refine ⟨evP_yes hE (ev_of hYF hOk f1 hft t2 (by omega) hm hS), fun i hi => ?_⟩
      have hmem : (onceL D D.size)[i]! ∈ onceL D D.size := by rw [getElem!_pos _ i hi]; exact List.getElem_mem hi
      obtain ⟨p, hp, he, _⟩ := mem_once.1 hmem
      have h1 := (hm (onceL D D.size)[i]!).1 (by rw [he, getElem!_pos D p hp]; exact Array.getElem_mem_toList hp)
      obtain ⟨j, q, l, hj, hl, _, _, _, hq⟩ := mem_allM.1 h1
      exact ⟨q, (List.getElem?_eq_some_iff.1 hl).1, hq⟩)
    rw [hE] at HC
    generalize EvP YF z f t = P at *
    obtain ⟨nam, off, dst, abb, ls⟩ := z
    unfold srcV at *
    simp only at *
    clear hc hE hOk hK h hz
    go_enter Tryz.func13, Tryz.ntmps13
    go_wp2_with fail
    
    refine (HC.out _ (by first | exact rdk_keep hM ((Below.refl w.heap.size w).alloc (Nat.le_refl _) _))).mono ?_
    rintro e V1 ⟨rfl, hb1⟩
    have B1 := nby hb1
    have S1 := Lib.hid (row_call hb1 (heap_alloc_new _ _))
    clear hb1
    obtain ⟨S1_0, S1_1, S1_2, S1_3, S1_4⟩ := qw5 S1
    have zS1 := lt_of_heap S1.out
    go_simp
    go_wp2_with fail
    refine (HMW.out _ (rdk_keep hM B1.out)).mono ?_
    rintro e w2 ⟨⟨D, A2, c2, rfl, hrd, hmem, hS, hD⟩, hb⟩
    have B2 := Lib.hid (B1.out.trans (hb.mono B1.out.size))
    have S2 := Lib.hid (row_call hb S1.out)
    obtain ⟨hP, hq⟩ := HEV.out D hmem hS
    have hlen : (onceL D D.size).length ≤ 1000000 := by have := onceL_len D D.size; omega
    clear hmem hS hD hb HEV HMW HC
    generalize onceL D D.size = Ms at *
    obtain ⟨ZC, hmk, hZC⟩ := make_chg Ms.length hlen
    replace hP := Lib.hid hP
    replace hq := Lib.hid hq
    replace hrd := Lib.hid hrd
    have hR0 := Lib.hid (hZC w2)
    have hA0 := Lib.hid (((Below.refl w2.heap.size w2).alloc (Nat.le_refl _) (.cells ZC 44)))
    have hws := B2.out.size
    clear hZC
    go_simp
    go_wp2
    go_loopw [30] (fun iv wr => ∃ (k : Nat) (E : Array Chg), k ≤ Ms.length ∧ iv = .int .i64 (k : Int) ∧ Hid (Below w2.heap.size w2 wr) ∧ Hid (RowC wr w2.heap.size E) ∧ E.size = Ms.length ∧ Hid (∀ i, i < k → E[i]! = chgM ls Ms[i]!)) (fun iv _ => Ms.length - (intOf iv).toNat)
    case atStart => exact ⟨0, _, by omega, rfl, hA0, hR0, by simp, Lib.hid (fun i hi => by omega)⟩
    case round =>
      obtain ⟨k, E, hk, rfl, hBl, hRC, hEs, hEv⟩ := hrel
      obtain ⟨V20, rfl⟩ : ∃ V, V = wr := ⟨_, rfl⟩
      clear hA0 hR0 S1
      have hg := hRC.out.lt
      by_cases hlt : k < Ms.length
      · have B20 := Lib.hid (Below.refl V20.heap.size V20)
        have S20 := Lib.hid ((hBl.out.block w.heap.size (by have := lt_of_heap S2.out; omega)).trans S2.out)
        obtain ⟨bm, om, rfl, hbm, hcm⟩ := (hrd.out.below hBl.out (Nat.le_refl _)).mom hlt
        obtain ⟨m0, m1⟩ := hcm k hlt
        obtain ⟨q, hql, hqm⟩ := hq.out k hlt
        rw [getElem!_pos Ms k hlt] at hqm
        have hx := chgM_at hql hqm
        obtain ⟨b, o, rfl, hbl, hc⟩ := ((hM.out.2.below B2.out (Nat.le_refl _)).below hBl.out (Nat.le_refl _)).lin hql
        obtain ⟨-, -, -, -, -, -, -, -, -, -, c10, c11, c12⟩ := hc q hql
        have k0 := hRC.out.c0 k (by omega)
        have k1 := hRC.out.c1 k (by omega)
        have k2 := hRC.out.c2 k (by omega)
        have k3 := hRC.out.c3 k (by omega)
        have z0 := hRC.out.fz (k * 4)
        have z1 := hRC.out.fz (k * 4 + 1)
        have z2 := hRC.out.fz (k * 4 + 2)
        have z3 := hRC.out.fz (k * 4 + 3)
        rw [hqm] at m1
        clear hc hcm
        obtain ⟨ms, hms⟩ : ∃ ms, Ms[k].1 = ms := ⟨_, rfl⟩
        obtain ⟨tl, htl⟩ : ∃ tl, ls[q] = tl := ⟨_, rfl⟩
        rw [hms] at m0 hx
        rw [htl] at c10 c11 c12 hx
        obtain ⟨t0, ht0⟩ : ∃ t0, tl.off = t0 := ⟨_, rfl⟩
        obtain ⟨t1, ht1⟩ : ∃ t1, tl.dst = t1 := ⟨_, rfl⟩
        obtain ⟨t2', ht2⟩ : ∃ t2', tl.abb = t2' := ⟨_, rfl⟩
        rw [ht0] at c10
        rw [ht1] at c11
        rw [ht2] at c12
        have hxx : Hid (chgM ls Ms[k]! = (ms, t0, t1, t2')) := Lib.hid (by rw [getElem!_pos Ms k hlt, hx]; unfold triOf; rw [ht0, ht1, ht2])
        generalize E[k]! = old at k0 k1 k2 k3
        obtain ⟨o0, o1, o2, o3⟩ := old
        simp only at k0 k1 k2 k3
        replace hqm := Lib.hid hqm
        replace hms := Lib.hid hms
        replace htl := Lib.hid htl
        replace ht0 := Lib.hid ht0
        replace ht1 := Lib.hid ht1
        replace ht2 := Lib.hid ht2
        clear hx
        have d3 : (k : Int) < (Ms.length : Int) := by omega
        have d4 : (q : Int) < (ls.length : Int) := by omega
        
        obtain ⟨S20_0, S20_1, S20_2, S20_3, S20_4⟩ := qw5 S20
        have zS20 := lt_of_heap S20.out
        go_wp2_with fail
        have nS20M1 := Lib.hid (lt_of_heap S20.out)
        clear S20_0 S20_1 S20_2 S20_3 S20_4 zS20
        obtain ⟨W0, hW0⟩ : ∃ W0, W0 = (V20.alloc (Obj.cells #[Value.int .i64 ms, Value.int .i64 (q : Int)] 61)) := ⟨_, rfl⟩
        replace S20 := Lib.hid (row_by hW0 (row_alloc S20.out _))
        have M1 := Lib.hid (row_at (k' := V20.heap.size) (by simp) (row_by hW0 (heap_alloc_new _ _)))
        have HB0 := Lib.hid (below_by hW0 ((B20.out).alloc (by have := B20.out.size; simp <;> omega) _))
        have HW0 := Lib.hid hW0
        clear hW0
        obtain ⟨S20_0, S20_1, S20_2, S20_3, S20_4⟩ := qw5 S20
        have zS20 := lt_of_heap S20.out
        obtain ⟨M1_0, M1_1⟩ := qw2 M1
        have zM1 := lt_of_heap M1.out
        try rw [← HW0.out]
        refine wp_region_still_tail 13 (by kernel_rfl) (by kernel_rfl) ?_
        simp only [List.take_succ_cons, List.take_zero, List.drop_succ_cons, List.drop_zero]
        obtain ⟨V21, hV⟩ : ∃ V, V = W0.drew := ⟨_, rfl⟩
        rw [show ({ heap := W0.heap, tape := W0.tape, drawn := W0.drawn + 1, os := W0.os, output := W0.output } : World) = V21 from hV.symm]
        clear S20_0 S20_1 S20_2 S20_3 S20_4 zS20 M1_0 M1_1 zM1
        replace S20 := Lib.hid (row_by hV (show W0.drew.heap[_]? = _ from S20.out))
        replace M1 := Lib.hid (row_by hV (show W0.drew.heap[_]? = _ from M1.out))
        have B21 := Lib.hid (below_by hV HB0.out.drew)
        have HV := Lib.hid hV
        clear hV
        obtain ⟨S20_0, S20_1, S20_2, S20_3, S20_4⟩ := qw5 S20
        have zS20 := lt_of_heap S20.out
        obtain ⟨M1_0, M1_1⟩ := qw2 M1
        have zM1 := lt_of_heap M1.out
        have fc0 : V21.cell? ⟨b, o + q * 13 + 10, none⟩ = some (.int .i64 t0) := (B21.out.cell (p := ⟨b, o + q * 13 + 10, none⟩) (by omega)).trans (by assumption)
        have fc1 : V21.cell? ⟨b, o + q * 13 + 11, none⟩ = some (.bool t1) := (B21.out.cell (p := ⟨b, o + q * 13 + 11, none⟩) (by omega)).trans (by assumption)
        have fc2 : V21.cell? ⟨b, o + q * 13 + 12, none⟩ = some (.string (bs t2')) := (B21.out.cell (p := ⟨b, o + q * 13 + 12, none⟩) (by omega)).trans (by assumption)
        have fc3 : V21.cell? ⟨w2.heap.size, k * 4, none⟩ = some (.int .i64 o0) := (B21.out.cell (p := ⟨w2.heap.size, k * 4, none⟩) (by omega)).trans (by assumption)
        have fd3 : V21.frozen? ⟨w2.heap.size, k * 4, none⟩ = false := (B21.out.frozen (p := ⟨w2.heap.size, k * 4, none⟩) (by omega)).trans (by assumption)
        have fc4 : V21.cell? ⟨w2.heap.size, k * 4 + 1, none⟩ = some (.int .i64 o1) := (B21.out.cell (p := ⟨w2.heap.size, k * 4 + 1, none⟩) (by omega)).trans (by assumption)
        have fd4 : V21.frozen? ⟨w2.heap.size, k * 4 + 1, none⟩ = false := (B21.out.frozen (p := ⟨w2.heap.size, k * 4 + 1, none⟩) (by omega)).trans (by assumption)
        have fc5 : V21.cell? ⟨w2.heap.size, k * 4 + 2, none⟩ = some (.bool o2) := (B21.out.cell (p := ⟨w2.heap.size, k * 4 + 2, none⟩) (by omega)).trans (by assumption)
        have fd5 : V21.frozen? ⟨w2.heap.size, k * 4 + 2, none⟩ = false := (B21.out.frozen (p := ⟨w2.heap.size, k * 4 + 2, none⟩) (by omega)).trans (by assumption)
        have fc6 : V21.cell? ⟨w2.heap.size, k * 4 + 3, none⟩ = some (.string (bs o3)) := (B21.out.cell (p := ⟨w2.heap.size, k * 4 + 3, none⟩) (by omega)).trans (by assumption)
        have fd6 : V21.frozen? ⟨w2.heap.size, k * 4 + 3, none⟩ = false := (B21.out.frozen (p := ⟨w2.heap.size, k * 4 + 3, none⟩) (by omega)).trans (by assumption)
        repeat still_step
        try refine wpStill_nil ?_
        have hset := Lib.hid ((hRC.out.below B21.out hg).set (k := k) (by omega) (ms, t0, t1, t2'))
        have hbs := Lib.hid (put4_below (hBl.out.trans (B21.out.mono (by omega))) (Nat.le_refl _) (k * 4) (ms, t0, t1, t2'))
        go_wp2
        go_roundw
        case rel =>
          refine ⟨k + 1, E.setIfInBounds k (ms, t0, t1, t2'), by omega, by go_num, hbs, hset, by simpa using hEs, Lib.hid (fun i hi => ?_)⟩
          by_cases e : i = k
          · subst e
            rw [Go.Sort.getElem!_set_same E i _ (by omega), hxx.out]
          · rw [Go.Sort.getElem!_set_other E k i _ e]
            exact hEv.out i (by omega)
        case measure => simp [intOf]; omega
      · obtain rfl : k = Ms.length := by omega
        have hkT : ¬ ((Ms.length : Int) < (Ms.length : Int)) := by omega
        have hfin : Hid (V20.heap[w2.heap.size]? = some (.cells (chgVs (Ms.map (chgM ls))).toArray 44 (0, 0)) ∧ Below w.heap.size w V20) := Lib.hid ⟨by
          rw [hRC.out.exact]
          congr 4
          apply List.ext_getElem (by simp [hEs])
          intro i h1 h2
          have hi2 : i < Ms.length := by simpa using h2
          have := hEv.out i hi2
          rw [getElem!_pos E i (by omega), getElem!_pos Ms i hi2] at this
          simp [this], B2.out.trans (hBl.out.mono hws)⟩
        clear hlt
        go_wp2
        go_ret2
        exact ⟨Ms.map (chgM ls), w2.heap.size, by simp, hfin.out.1, hws, hP.out, by simp; omega, hfin.out.2⟩
theorem xEvents_no (z : Src) (A : Option Addr) (c : Nat) (f t : Int) (hE : evE z f t ≠ 0) (w : World) (hK : KX w) (h : Rd w A (linVs z.lns)) (hz : SB z) :
    Calls Tryz.prog 13 #[srcV z A c, .int .i64 f, .int .i64 t] w fun e w' => e = .returned (.tuple #[.slice none 0 0, .int .i64 (evE z f t)]) ∧ Below w.heap.size w w' := by
  have hM : Hid (KX w ∧ Rd w A (linVs z.lns)) := Lib.hid ⟨hK, h⟩
  have HC : Hid (∀ w, (KX w ∧ Rd w A (linVs z.lns)) → Calls Tryz.prog 25 #[srcV z A c, .int .i64 f, .int .i64 t] w fun e w' => e = .returned (.int .i64 (evE z f t)) ∧ Below w.heap.size w w') := Lib.hid (fun w h => xCheckYears_any z A c f t w h.1 h.2 hz)
  have f0 : (evE z f t != 0) = true := bne_iff_ne.2 hE
  generalize evE z f t = C at *
  obtain ⟨nam, off, dst, abb, ls⟩ := z
  unfold srcV at *
  simp only at *
  clear hE hK h hz
  go_enter Tryz.func13, Tryz.ntmps13
  go_wp2_with fail
  
  refine (HC.out _ (by first | exact rdk_keep hM ((Below.refl w.heap.size w).alloc (Nat.le_refl _) _))).mono ?_
  rintro e V1 ⟨rfl, hb1⟩
  have B1 := nby hb1
  have S1 := Lib.hid (row_call hb1 (heap_alloc_new _ _))
  clear hb1
  obtain ⟨S1_0, S1_1, S1_2, S1_3, S1_4⟩ := qw5 S1
  have zS1 := lt_of_heap S1.out
  go_simp
  go_wp2
  go_ret2
  exact ⟨rfl, B1.out⟩
theorem pExEvents_any {YF : Int → Int} (hYF : ∀ S, YIs S (YF S)) (z : Src) (A : Option Addr) (c : Nat) (f t : Int) (w : World) (hK : KX w) (h : Rd w A (linVs z.lns)) (hz : SB z) :
    Calls Tryz.prog 13 #[srcV z A c, .int .i64 f, .int .i64 t] w (RetChg (EvP YF z f t) (evE z f t) w) := by
  by_cases hE : evE z f t = 0
  · refine (xEvents_row hYF z A c f t hE w hK h hz).mono ?_
    rintro e w' ⟨L, g, rfl, hg, hgw, hP, hL, hb⟩
    rw [hE]
    exact ⟨L, _, _, rfl, rd_exact hg, hP, by omega, hb⟩
  · refine (xEvents_no z A c f t hE w hK h hz).mono ?_
    rintro e w' ⟨rfl, hb⟩
    exact ⟨[], none, 0, rfl, fun j u hu => by simp [chgVs] at hu, evP_no hE, by simp, hb⟩
end Go.Proofs.YtacpcjdiljnlaaaGreatDoor
namespace Go.Proofs.YtacpcjdiljnlaaaGreatDoor
set_option linter.unusedVariables false
set_option linter.unusedSimpArgs false
open Go.ChangeShapes Go.WideShapes Go.ChangeAt Go.RowKit
def lastT (l : List Chg) (was : Tri) : Tri := l.foldl (fun _ e => e.2) was
theorem lastT_snoc (l : List Chg) (e : Chg) (was : Tri) : lastT (l ++ [e]) was = e.2 := by unfold lastT; rw [List.foldl_append]; rfl
theorem alnL_snoc : ∀ (l : List Chg) (e : Chg) (was : Tri), alnL (l ++ [e]) was = alnL l was ++ (if e.2 = lastT l was then [] else [e]) := by
  intro l
  induction l with
  | nil =>
    intro e was
    show (if e.2 = was then alnL [] e.2 else e :: alnL [] e.2) = [] ++ (if e.2 = lastT [] was then [] else [e])
    show (if e.2 = was then [] else [e]) = [] ++ (if e.2 = was then [] else [e])
    simp
  | cons x l ih =>
    intro e was
    show (if x.2 = was then alnL (l ++ [e]) x.2 else x :: alnL (l ++ [e]) x.2) = (if x.2 = was then alnL l x.2 else x :: alnL l x.2) ++ (if e.2 = lastT l x.2 then [] else [e])
    rw [ih]
    split <;> simp
theorem alnL_len : ∀ (l : List Chg) (was : Tri), (alnL l was).length ≤ l.length := by
  intro l
  induction l with
  | nil => intro was; exact Nat.le_refl _
  | cons x l ih =>
    intro was
    have := ih x.2
    show (if x.2 = was then alnL l x.2 else x :: alnL l x.2).length ≤ _
    split <;> simp <;> omega
theorem aln_same {L : List Chg} {was : Tri} {i : Nat} (hi : i < L.length) (h : L[i].2 = lastT (L.take i) was) : alnL (L.take (i + 1)) was = alnL (L.take i) was := by
  rw [List.take_succ_eq_append_getElem hi, alnL_snoc, if_pos h, List.append_nil]
theorem aln_more {L : List Chg} {was : Tri} {i : Nat} (hi : i < L.length) (h : L[i].2 ≠ lastT (L.take i) was) : alnL (L.take (i + 1)) was = alnL (L.take i) was ++ [L[i]] := by
  rw [List.take_succ_eq_append_getElem hi, alnL_snoc, if_neg h]
theorem last_next {L : List Chg} {was : Tri} {i : Nat} (hi : i < L.length) : lastT (L.take (i + 1)) was = L[i].2 := by
  rw [List.take_succ_eq_append_getElem hi, lastT_snoc]
theorem chgVs_set : ∀ (X : List Chg) (j : Nat) (x : Chg), j < X.length → chgVs (X.set j x) = (chgVs X).take (j * 4) ++ chgV x ++ (chgVs X).drop (j * 4 + (chgV x).length) := by
  intro X
  induction X with
  | nil => intro j x h; simp at h
  | cons y X ih =>
    intro j x h
    have hl : ∀ e, (chgV e).length = 4 := fun e => rfl
    cases j with
    | zero =>
      show chgV x ++ chgVs X = _
      rw [hl]
      show _ = List.take 0 (chgV y ++ chgVs X) ++ chgV x ++ List.drop (0 * 4 + 4) (chgV y ++ chgVs X)
      rw [List.drop_append_of_le_length (by rw [hl]; omega)]
      simp [chgV]
    | succ j =>
      show chgV y ++ chgVs (X.set j x) = List.take ((j + 1) * 4) (chgV y ++ chgVs X) ++ chgV x ++ List.drop ((j + 1) * 4 + (chgV x).length) (chgV y ++ chgVs X)
      have e1 : List.take ((j + 1) * 4) (chgV y ++ chgVs X) = chgV y ++ List.take (j * 4) (chgVs X) := by
        rw [List.take_append, hl, List.take_of_length_le (l := chgV y) (by rw [hl]; omega), show (j + 1) * 4 - 4 = j * 4 by omega]
      have e2 : List.drop ((j + 1) * 4 + (chgV x).length) (chgV y ++ chgVs X) = List.drop (j * 4 + (chgV x).length) (chgVs X) := by
        rw [List.drop_append, hl, hl, List.drop_of_length_le (l := chgV y) (by rw [hl]; omega), show (j + 1) * 4 + 4 - 4 = j * 4 + 4 by omega, List.nil_append]
      rw [ih j x (by simpa using h), e1, e2]
      simp
theorem ah_low {YF : Int → Int} (hYF : ∀ S, YIs S (YF S)) {z : Src} (hOk : ∀ l ∈ z.lns, OkL l) {x : Int} (hx : x < -377705116800) : ahT YF z x = (z.off, z.dst, z.abb) := by
  unfold ahT
  rcases ahS_spec (lnA YF z.lns x) z.lns.length with ⟨h, _⟩ | ⟨i, a, hi, _, h, _⟩
  · rw [h]; rfl
  · exfalso
    have hl : z.lns[i]? = some z.lns[i] := List.getElem?_eq_getElem hi
    have h2 : lineA YF z.lns[i] x = some a := by unfold lnA at h; rw [hl] at h; exact h
    obtain ⟨⟨y, hy⟩, ha, _⟩ := lineA_some hYF (hOk _ (List.getElem_mem hi)) (by omega) h2
    have := hy.2.1
    omega
theorem wasT_ah {YF : Int → Int} (hYF : ∀ S, YIs S (YF S)) {z : Src} (hOk : ∀ l ∈ z.lns, OkL l) {f : Int} (hf : -9999 ≤ f) : ahT YF z (staI f - 1) = wasT YF z f := by
  unfold wasT
  have := staI_min hf
  by_cases h : -377705116800 < staI f
  · rw [if_pos h]
  · rw [if_neg h]; exact ah_low hYF hOk (by omega)
theorem wpList_append_here {P : Program} {ops : Array Oper} {rest : List Oper} {o : Oper} {a : Act} {Q : Exit → Act → World → Prop} (hgd : o.guard = none) (s x : Operand) (t : TypeId)
    (ho : o.op = .call { callee := .builtin .append, args := #[s, x], argTypes := #[t, t] }) (sv xv v' : Value) (w w' : World) (hs : a.eval s = sv) (hx : a.eval x = xv)
    (hr : (Builtin.append_ #[t, t] o.type #[sv, xv]).run P w = .ok v' w') (h : wpList P ops Q rest (a.put o.dst v') w') : wpList P ops Q (o :: rest) a w :=
  wpList_plain hgd fun _ hK => (by
    unfold Oper.wp execOp
    simp only [ho, resolve, invoke, builtin, Sem.run_bind, Sem.run_pure, Result.andThen_ok, List.map_toArray, List.map_cons, List.map_nil, hs, hx, hr]
    exact hK _ _ h)
theorem chgVs_app (X Y : List Chg) : chgVs (X ++ Y) = chgVs X ++ chgVs Y := by unfold chgVs; rw [List.flatMap_append]
theorem rd_head {w : World} {A : Option Addr} {X M : List Chg} (h : Rd w A (chgVs X)) (hm : M.length ≤ X.length) (he : ∀ q, q < M.length → X[q]! = M[q]!) : Rd w A (chgVs M) := by
  have hx : X = M ++ X.drop M.length := by
    conv => lhs; rw [← List.take_append_drop M.length X]
    congr 1
    apply List.ext_getElem (by simp; omega)
    intro q h1 h2
    have := he q h2
    rw [getElem!_pos X q (by omega), getElem!_pos M q h2] at this
    simpa using this
  rw [hx, chgVs_app] at h
  intro j u hu
  exact h j u (by rw [List.getElem?_append_left (List.getElem?_eq_some_iff.1 hu).1]; exact hu)
theorem set_at {X : List Chg} {j q : Nat} {x : Chg} (hj : j < X.length) (hq : q < X.length) : (X.set j x)[q]! = if q = j then x else X[q]! := by
  rw [getElem!_pos (X.set j x) q (by simpa using hq), List.getElem_set, getElem!_pos X q hq]
  by_cases e : q = j
  · rw [if_pos e.symm, if_pos e]
  · rw [if_neg (Ne.symm e), if_neg e]
theorem app_at {M : List Chg} {x : Chg} {q : Nat} (hq : q < M.length + 1) : (M ++ [x])[q]! = if q = M.length then x else M[q]! := by
  rw [getElem!_pos (M ++ [x]) q (by simpa using hq)]
  by_cases e : q = M.length
  · rw [if_pos e, List.getElem_append_right (by omega)]
    simp [e]
  · rw [if_neg e, List.getElem_append_left (by omega), getElem!_pos M q (by omega)]
set_option maxHeartbeats 12800000 in
set_option maxRecDepth 100000 in
theorem pExChanges_any {YF : Int → Int} (hYF : ∀ S, YIs S (YF S)) (z : Src) (A : Option Addr) (c : Nat) (f t : Int) (w : World) (hK : KX w) (h : Rd w A (linVs z.lns)) (hz : SB z) :
    Calls Tryz.prog 16 #[srcV z A c, .int .i64 f, .int .i64 t] w (RetChg (ChP YF z f t) (evE z f t) w) := by
  have hM : Hid (KX w ∧ Rd w A (linVs z.lns)) := Lib.hid ⟨hK, h⟩
  by_cases hE : evE z f t = 0
  · have HE : Hid (∀ w, (KX w ∧ Rd w A (linVs z.lns)) → Calls Tryz.prog 13 #[srcV z A c, .int .i64 f, .int .i64 t] w (RetEvs (EvP YF z f t) w)) := Lib.hid (fun w h => xEvents_row hYF z A c f t hE w h.1 h.2 hz)
    obtain ⟨hc, f1, hft, t2⟩ := evE_ok hE
    have hOk := ((ckU_zero z).1 hc).2.2.2.2.2
    have hL := ((ckU_zero z).1 hc).1
    have hsm := sta_le (a := f) (b := 10000) (by omega)
    have hsn := staI_min f1
    rw [sta_max] at hsm
    have HH : Hid (∀ w, (KX w ∧ Rd w A (linVs z.lns)) → Calls Tryz.prog 20 #[srcV z A c, .int .i64 (staI f - 1)] w fun e w' => e = .returned (.agg #[.int .i64 (wasT YF z f).1, .bool (wasT YF z f).2.1, .string (bs (wasT YF z f).2.2)]) ∧ Below w.heap.size w w') :=
      Lib.hid (fun w h => by
        have := xHas_any hYF z hOk (by omega) A c (staI f - 1) (by omega) w (kx_md h.1) h.2
        rw [wasT_ah hYF hOk f1] at this
        exact this)
    have HF : Hid (∀ w, (KX w ∧ Rd w A (linVs z.lns)) → Calls Tryz.prog 30 #[.int .i64 f] w fun e w' => e = .returned (.int .i64 (staI f)) ∧ Below w.heap.size w w') := Lib.hid (fun w h => xFirst_any f f1 (by omega) w (kx_md h.1))
    have hCh : Hid (∀ L, EvP YF z f t L → ChP YF z f t (alnL L (wasT YF z f))) := Lib.hid (fun L h => ⟨L, h, rfl⟩)
    have hws : IntKind.i64.wrap (staI f - 1) = staI f - 1 := w64 (by omega) (by omega)
    rw [hE]
    generalize wasT YF z f = was at *
    generalize ChP YF z f t = CP at *
    generalize EvP YF z f t = P at *
    generalize staI f = sf at *
    obtain ⟨nam, off, dst, abb, ls⟩ := z
    unfold srcV at *
    simp only at *
    clear hc hE hOk hK h hz hL hsm hsn
    obtain ⟨i0, hi, hz0, hz1, hz2⟩ := info_parts infoChg
    obtain ⟨h0, h1, h2⟩ := was
    obtain ⟨wv, hwv⟩ : ∃ wv : Tri, Hid (wv = (h0, h1, h2)) := ⟨_, Lib.hid rfl⟩
    rw [← hwv.out] at hCh
    simp only at HH
    go_enter Tryz.func16, Tryz.ntmps16
    go_wp2_with fail
    
    have S0 := Lib.hid (heap_alloc_new w (.cells #[.string (bs nam), .int .i64 off, .bool dst, .string (bs abb), .slice A ls.length c] 26))
    have B0 := Lib.hid ((Below.refl _ w).alloc (Nat.le_refl _) (.cells #[.string (bs nam), .int .i64 off, .bool dst, .string (bs abb), .slice A ls.length c] 26))
    refine (HE.out _ (rdk_keep hM B0.out)).mono ?_
    rintro e w2 ⟨L, g, rfl, hrow, hgw, hP, hlen, hb⟩
    have hP2 := Lib.hid (hCh.out L hP)
    have S1 := Lib.hid (row_call hb S0.out)
    have Bw := Lib.hid (B0.out.trans (hb.mono B0.out.size))
    have hgw2 : w.heap.size + 1 ≤ g := by simpa using hgw
    have hgl : g < w2.heap.size := (Array.getElem?_eq_some_iff.1 hrow).1
    replace hrow := Lib.hid hrow
    obtain ⟨V20, rfl⟩ : ∃ V, V = w2 := ⟨_, rfl⟩
    have hM := Lib.hid (rdk_keep hM Bw.out)
    have B20 := Lib.hid (Below.refl V20.heap.size V20)
    clear hP hCh hb HE S0 B0 hgw
    go_simp
    
    obtain ⟨S1_0, S1_1, S1_2, S1_3, S1_4⟩ := qw5 S1
    have zS1 := lt_of_heap S1.out
    go_wp2_with fail
    clear S1_0 S1_1 S1_2 S1_3 S1_4 zS1
    obtain ⟨W0, hW0⟩ : ∃ W0, W0 = V20 := ⟨_, rfl⟩
    replace S1 := Lib.hid (row_by hW0 S1.out)
    have HB0 := Lib.hid (below_by hW0 (B20.out))
    have HW0 := Lib.hid hW0
    clear hW0
    obtain ⟨S1_0, S1_1, S1_2, S1_3, S1_4⟩ := qw5 S1
    have zS1 := lt_of_heap S1.out
    try rw [← HW0.out]
    go_cut [10, 11] (fun s10 s11 wx => ∃ gH1 : Nat, s10 = .pointer (some ⟨gH1, 0, none⟩) ∧ s11 = .slice (some ⟨g, 0, none⟩) 0 L.length ∧ wx.heap[gH1]? = some (.cells #[.int .i64 h0, .bool h1, .string (bs h2)] 23 (0, 0)) ∧ W0.heap.size ≤ gH1 ∧ Below W0.heap.size W0 wx)
    case first =>
      go_region_held3 (fun w' => Below W0.heap.size W0 w' ∧ w'.cell? ⟨w.heap.size, 0, none⟩ = some (.string (bs nam)) ∧ w'.cell? ⟨w.heap.size, 1, none⟩ = some (.int .i64 off) ∧ w'.cell? ⟨w.heap.size, 2, none⟩ = some (.bool dst) ∧ w'.cell? ⟨w.heap.size, 3, none⟩ = some (.string (bs abb)) ∧ w'.cell? ⟨w.heap.size, 4, none⟩ = some (.slice A ls.length c))
    (first
      | ((try go_split_ands); refine ⟨(Below.refl _ _).drew, ?_, ?_, ?_, ?_, ?_⟩ <;> first | assumption | (rw [World.cell?_drew]; assumption))
      | ((try go_split_ands); refine ⟨keepS (W0 := W0) ?_ hb1, cellS (W0 := W0) ?_ hb1 ?_ ?_, cellS (W0 := W0) ?_ hb1 ?_ ?_, cellS (W0 := W0) ?_ hb1 ?_ ?_, cellS (W0 := W0) ?_ hb1 ?_ ?_, cellS (W0 := W0) ?_ hb1 ?_ ?_⟩ <;> first | assumption | omega)
      | ((try go_split_ands); refine ⟨keepA (W0 := W0) ?_ _, cellA (W0 := W0) ?_ _ ?_ ?_, cellA (W0 := W0) ?_ _ ?_ ?_, cellA (W0 := W0) ?_ _ ?_ ?_, cellA (W0 := W0) ?_ _ ?_ ?_, cellA (W0 := W0) ?_ _ ?_ ?_⟩ <;> first | assumption | omega)
      | ((try go_split_ands); refine ⟨keepAd (W0 := W0) ?_ _, cellAd (W0 := W0) ?_ _ ?_ ?_, cellAd (W0 := W0) ?_ _ ?_ ?_, cellAd (W0 := W0) ?_ _ ?_ ?_, cellAd (W0 := W0) ?_ _ ?_ ?_, cellAd (W0 := W0) ?_ _ ?_ ?_⟩ <;> first | assumption | omega | exact Below.refl _ _)
      | ((try go_split_ands); (with_reducible refine ⟨keep3 (W0 := W0) ?_ ?_ _ _ _, cell3 (W0 := W0) ?_ _ _ _ ?_ ?_, cell3 (W0 := W0) ?_ _ _ _ ?_ ?_, cell3 (W0 := W0) ?_ _ _ _ ?_ ?_, cell3 (W0 := W0) ?_ _ _ _ ?_ ?_, cell3 (W0 := W0) ?_ _ _ _ ?_ ?_⟩) <;> first | assumption | omega | exact Nat.le_refl _)
      | ((try go_split_ands); refine ⟨keep2 (W0 := W0) ?_ ?_ _ _, cell2 (W0 := W0) ?_ _ _ ?_ ?_, cell2 (W0 := W0) ?_ _ _ ?_ ?_, cell2 (W0 := W0) ?_ _ _ ?_ ?_, cell2 (W0 := W0) ?_ _ _ ?_ ?_, cell2 (W0 := W0) ?_ _ _ ?_ ?_⟩ <;> first | assumption | omega | exact Nat.le_refl _)
      | ((try go_split_ands); refine ⟨keepZ (W0 := W0) ?_ ?_ _, cellZ (W0 := W0) ?_ _ ?_ ?_, cellZ (W0 := W0) ?_ _ ?_ ?_, cellZ (W0 := W0) ?_ _ ?_ ?_, cellZ (W0 := W0) ?_ _ ?_ ?_, cellZ (W0 := W0) ?_ _ ?_ ?_⟩ <;> first | assumption | omega | exact Nat.le_refl _ | exact ⟨_, by assumption⟩))
    (first | (go_at_call 30; (with_reducible refine (HF.out _ ?_).mono ?_); (focus (refine rdk_keep (Lib.hid (rdk_keep hM HB0.out)) ?_; first | assumption | (with_reducible exact (Below.refl _ _).drew) | (go_split_ands; done) | ((try go_split_ands); assumption))); rintro e w1 ⟨rfl, hb1⟩; (try go_split_ands); have hge : W0.heap.size ≤ w1.heap.size := (by first | (refine (keepS (W0 := W0) ?_ hb1).size; assumption) | exact (hb1.size : W0.heap.size ≤ w1.heap.size)); (try have hrow := row_call hb1 hrow); (try have hrow := row_new hb1); (try have hrow := row_newd hb1); have hl1 := lt_below hb1; obtain ⟨hc1, hf1⟩ := bcell hb1; (try (have hrc := row_cellA hrow; clear hc1 hf1)); (try have hrf := row_frozA hrow)) | (go_at_call 20; (with_reducible refine (HH.out _ ?_).mono ?_); (focus (refine rdk_keep (Lib.hid (rdk_keep hM HB0.out)) ?_; first | assumption | (with_reducible exact (Below.refl _ _).drew) | (go_split_ands; done) | ((try go_split_ands); assumption))); rintro e w1 ⟨rfl, hb1⟩; (try go_split_ands); have hge : W0.heap.size ≤ w1.heap.size := (by first | (refine (keepS (W0 := W0) ?_ hb1).size; assumption) | exact (hb1.size : W0.heap.size ≤ w1.heap.size)); (try have hrow := row_call hb1 hrow); (try have hrow := row_new hb1); (try have hrow := row_newd hb1); have hl1 := lt_below hb1; obtain ⟨hc1, hf1⟩ := bcell hb1; (try (have hrc := row_cellA hrow; clear hc1 hf1)); (try have hrf := row_frozA hrow)) | (go_at_call 30; refine (HF.out _ (by first | exact rdk_keep (Lib.hid (rdk_keep hM HB0.out)) (by assumption) | exact rdk_keep (Lib.hid (rdk_keep hM HB0.out)) (by (try go_split_ands); assumption) | exact rdk_keep (Lib.hid (rdk_keep hM HB0.out)) (Below.refl _ _).drew)).mono ?_; rintro e w1 ⟨rfl, hb1⟩; (try go_split_ands); have hge : W0.heap.size ≤ w1.heap.size := (by first | (refine (keepS (W0 := W0) ?_ hb1).size; assumption) | exact (hb1.size : W0.heap.size ≤ w1.heap.size)); (try have hrow := row_call hb1 hrow); (try have hrow := row_new hb1); (try have hrow := row_newd hb1); have hl1 := lt_below hb1; obtain ⟨hc1, hf1⟩ := bcell hb1; (try (have hrc := row_cellA hrow; clear hc1 hf1)); (try have hrf := row_frozA hrow)) | (go_at_call 20; refine (HH.out _ (by first | exact rdk_keep (Lib.hid (rdk_keep hM HB0.out)) (by assumption) | exact rdk_keep (Lib.hid (rdk_keep hM HB0.out)) (by (try go_split_ands); assumption) | exact rdk_keep (Lib.hid (rdk_keep hM HB0.out)) (Below.refl _ _).drew)).mono ?_; rintro e w1 ⟨rfl, hb1⟩; (try go_split_ands); have hge : W0.heap.size ≤ w1.heap.size := (by first | (refine (keepS (W0 := W0) ?_ hb1).size; assumption) | exact (hb1.size : W0.heap.size ≤ w1.heap.size)); (try have hrow := row_call hb1 hrow); (try have hrow := row_new hb1); (try have hrow := row_newd hb1); have hl1 := lt_below hb1; obtain ⟨hc1, hf1⟩ := bcell hb1; (try (have hrc := row_cellA hrow; clear hc1 hf1)); (try have hrf := row_frozA hrow)))
      all_goals (try go_split_ands)
      all_goals (go_wp2_with fail; go_meet; refine ⟨_, rfl, rfl, ?_, ?_, ?_⟩)
      all_goals first | (with_reducible assumption) | (with_reducible exact heap_alloc_new _ _) | (with_reducible exact row_set3 (by assumption) _ _ _) | assumption | exact heap_alloc_new _ _ | exact row_set (by assumption) _ _ | omega | (simp; omega)
    case rest =>
      obtain ⟨gH1, rfl, rfl, hH1, lH1, hB⟩ := hcut
      have nS1H1 := Lib.hid (Nat.lt_of_lt_of_le zS1 lH1)
      have LH1 := Lib.hid (Nat.le_trans HB0.out.size lH1)
      clear lH1
      obtain ⟨V21, rfl⟩ : ∃ V, V = wc := ⟨_, rfl⟩
      have H1 := Lib.hid hH1
      clear hH1
      clear S1_0 S1_1 S1_2 S1_3 S1_4 zS1
      replace S1 := Lib.hid (row_call hB S1.out)
      have B21 := Lib.hid (HB0.out.trans (hB.mono HB0.out.size))
      clear hB
      obtain ⟨S1_0, S1_1, S1_2, S1_3, S1_4⟩ := qw5 S1
      have zS1 := lt_of_heap S1.out
      obtain ⟨H1_0, H1_1, H1_2⟩ := qw3 H1
      have H1_f0 : V21.frozen? ⟨gH1, 0, none⟩ = false := (by simp [World.frozen?, H1.out])
      have H1_f1 : V21.frozen? ⟨gH1, 1, none⟩ = false := (by simp [World.frozen?, H1.out])
      have H1_f2 : V21.frozen? ⟨gH1, 2, none⟩ = false := (by simp [World.frozen?, H1.out])
      have zH1 := lt_of_heap H1.out
      have hrow1 := Lib.hid ((B21.out.block g hgl).trans hrow.out)
      have Lg : g < gH1 := Nat.lt_of_lt_of_le hgl LH1.out
      have Lw : w.heap.size < gH1 := by omega
      have Bw1 := Lib.hid (Bw.out.trans (B21.out.mono Bw.out.size))
      clear hrow S1_0 S1_1 S1_2 S1_3 S1_4
      go_wp2
      go_loopw [11, 33] (fun cv iv wr => ∃ (i : Nat) (X : List Chg), i ≤ L.length ∧ iv = .int .i64 (i : Int) ∧ cv = .slice (some ⟨g, 0, none⟩) (alnL (L.take i) wv).length L.length ∧ Hid (Below w.heap.size w wr) ∧ Hid (wr.heap[gH1]? = some (.cells #[.int .i64 (lastT (L.take i) wv).1, .bool (lastT (L.take i) wv).2.1, .string (bs (lastT (L.take i) wv).2.2)] 23 (0, 0))) ∧ Hid (wr.heap[g]? = some (.cells (chgVs X).toArray 44 (0, 0))) ∧ X.length = L.length ∧ Hid ((∀ q, i ≤ q → q < L.length → X[q]! = L[q]!) ∧ (∀ q, q < (alnL (L.take i) wv).length → X[q]! = (alnL (L.take i) wv)[q]!))) (fun _ iv _ => L.length - (intOf iv).toNat)
      case atStart =>
        refine ⟨0, L, by omega, rfl, rfl, Bw1, Lib.hid ?_, hrow1, rfl, Lib.hid ⟨fun q _ _ => rfl, fun q hq => absurd hq (by show ¬ q < 0; omega)⟩⟩
        show _ = some (Obj.cells #[.int .i64 wv.1, .bool wv.2.1, .string (bs wv.2.2)] _ _)
        rw [hwv.out]
        exact H1.out
      case round =>
        obtain ⟨i, X, hi2, rfl, rfl, hBw, H2, hX, hXl, hXX⟩ := hrel
        obtain ⟨V20, rfl⟩ : ∃ V, V = wr := ⟨_, rfl⟩
        clear H1 H1_0 H1_1 H1_2 hrow1 Bw1
        by_cases hlt : i < L.length
        · obtain ⟨b, o, hbo, hbl, hc⟩ := (rd_exact hX.out).chg (k := i) (by omega)
          obtain ⟨rfl, rfl⟩ : g = b ∧ 0 = o := by simpa using hbo
          obtain ⟨k0, k1, k2, k3⟩ := hc i (by omega)
          have hXi := hXX.out.1 i (Nat.le_refl _) hlt
          rw [getElem!_pos X i (by omega), getElem!_pos L i hlt] at hXi
          rw [hXi] at k0 k1 k2 k3
          have hsame := aln_same (was := wv) hlt
          have hmore := aln_more (was := wv) hlt
          have hnext := Lib.hid (last_next (was := wv) hlt)
          have hal := alnL_len (L.take i) wv
          rw [List.length_take] at hal
          rw [show 0 + i * 4 = i * 4 by omega] at k0 k1 k2 k3
          generalize L[i] = e at *
          obtain ⟨cs, t0, t1, t2⟩ := e
          generalize hT : lastT (L.take i) wv = T at *
          replace hT := Lib.hid hT
          obtain ⟨a0, a1, a2⟩ := T
          obtain ⟨M, hM2⟩ : ∃ M, alnL (L.take i) wv = M := ⟨_, rfl⟩
          rw [hM2] at hsame hmore hal hXX
          simp only at k0 k1 k2 k3 hnext hsame hmore
          have d3 : (i : Int) < (L.length : Int) := by omega
          clear hc hbo
          have hgl2 : g < V20.heap.size := hbl
          have B20 := Lib.hid (Below.refl V20.heap.size V20)
          have zH2 := lt_of_heap H2.out
          
          obtain ⟨H2_0, H2_1, H2_2⟩ := qw3 H2
          have zH2 := lt_of_heap H2.out
          rw [hM2]
          
          by_cases q0 : (t0, t1, t2) = (a0, a1, a2)
          · obtain ⟨rfl, rfl, rfl⟩ : t0 = a0 ∧ t1 = a1 ∧ t2 = a2 := by simpa using q0
            have E := Lib.hid (hsame rfl)
            clear q0 hsame hmore
            
            have rH2 := setRow_heap (V20.alloc (Obj.cells #[Value.int .i64 cs, Value.int .i64 t0, Value.bool t1, Value.string (bs t2)] 44)) (gH1) _ #[Value.int .i64 t0, Value.bool t1, Value.string (bs t2)] _ _ (row_alloc H2.out _)
            obtain ⟨rH2_0, rH2_1, rH2_2⟩ := qv3 rH2
            go_wp2_with (refine wpList_store_row (by rfl) 23 _ _ (by rfl) (gH1) #[Value.int .i64 t0, Value.bool t1, Value.string (bs t2)] (by rfl) (by rfl) _ _ (row_alloc H2.out _) (by kernel_rfl) (by rfl) (by simp [Value.oneCell']) ?_)
            go_roundw
            case rel => exact ⟨i + 1, X, by omega, by go_num, by rw [E.out], Lib.hid (keepRow (hBw.out.alloc hBw.out.size _) (by omega) _), Lib.hid (by rw [hnext.out]; exact rH2), Lib.hid (row_otherR (by omega) (row_alloc hX.out _) _), hXl, Lib.hid ⟨fun q h1 h2 => hXX.out.1 q (by omega) h2, by rw [E.out]; exact hXX.out.2⟩⟩
            case measure => simp [intOf]; omega
          · have E := Lib.hid (hmore (by simpa using q0))
            clear hsame hmore
            
            have hnw : ∀ j u, (chgV (cs, t0, t1, t2))[j]? = some u → ((V20.alloc (Obj.cells #[.int .i64 cs, .int .i64 t0, .bool t1, .string (bs t2)] 44)).alloc (Obj.cells #[.int .i64 cs, .int .i64 t0, .bool t1, .string (bs t2)] 44)).cell? ((⟨V20.heap.size + 1, 0, none⟩ : Addr).add j) = some u := by
              have := World.news_of_block (w := (V20.alloc (Obj.cells #[.int .i64 cs, .int .i64 t0, .bool t1, .string (bs t2)] 44)).alloc (Obj.cells #[.int .i64 cs, .int .i64 t0, .bool t1, .string (bs t2)] 44)) (cs := #[.int .i64 cs, .int .i64 t0, .bool t1, .string (bs t2)]) (heap_alloc_new (V20.alloc (Obj.cells #[.int .i64 cs, .int .i64 t0, .bool t1, .string (bs t2)] 44)) (Obj.cells #[.int .i64 cs, .int .i64 t0, .bool t1, .string (bs t2)] 44))
              rw [show (V20.alloc (Obj.cells #[.int .i64 cs, .int .i64 t0, .bool t1, .string (bs t2)] 44)).heap.size = V20.heap.size + 1 by simp] at this
              exact this
            have hap2 : ∀ ty, (Builtin.append_ #[39, 39] ty #[.slice (some ⟨g, 0, none⟩) M.length L.length, .slice (some ⟨V20.heap.size + 1, 0, none⟩) 1 1]).run Tryz.prog ((V20.alloc (Obj.cells #[.int .i64 cs, .int .i64 t0, .bool t1, .string (bs t2)] 44)).alloc (Obj.cells #[.int .i64 cs, .int .i64 t0, .bool t1, .string (bs t2)] 44)) = .ok (.slice (some ⟨g, 0, none⟩) (M.length + 1) L.length) (((V20.alloc (Obj.cells #[.int .i64 cs, .int .i64 t0, .bool t1, .string (bs t2)] 44)).alloc (Obj.cells #[.int .i64 cs, .int .i64 t0, .bool t1, .string (bs t2)] 44)).setRow g (chgVs (X.set M.length (cs, t0, t1, t2))).toArray) := fun ty => by
              have := run_append_room (P := Tryz.prog) ((V20.alloc (Obj.cells #[.int .i64 cs, .int .i64 t0, .bool t1, .string (bs t2)] 44)).alloc (Obj.cells #[.int .i64 cs, .int .i64 t0, .bool t1, .string (bs t2)] 44)) 39 ty 44 i0 Tryz.underlying39 hi g M.length L.length (chgVs X).toArray (row_alloc (row_alloc hX.out _) _) ⟨V20.heap.size + 1, 0, none⟩ 1 1 (chgV (cs, t0, t1, t2)) (by rw [hz1]; rfl) hnw (by intro u hu; simp [chgV] at hu; rcases hu with rfl | rfl | rfl | rfl <;> rfl) (by omega) (by rw [hz1]; simp [chgVs_len, chgV]; omega)
              rw [hz1] at this
              rw [this, chgVs_set X M.length _ (by omega)]
            obtain ⟨V9, hV9⟩ : ∃ V, V = ((V20.alloc (Obj.cells #[.int .i64 cs, .int .i64 t0, .bool t1, .string (bs t2)] 44)).alloc (Obj.cells #[.int .i64 cs, .int .i64 t0, .bool t1, .string (bs t2)] 44)).setRow g (chgVs (X.set M.length (cs, t0, t1, t2))).toArray := ⟨_, rfl⟩
            have HV9 := Lib.hid hV9
            have hB9 : Hid (Below w.heap.size w V9) := Lib.hid (by rw [hV9]; exact keepRow ((hBw.out.alloc hBw.out.size _).alloc (by have := hBw.out.size; simp; omega) _) (by omega) _)
            have hC9 : V9.heap[V20.heap.size]? = some (Obj.cells #[.int .i64 cs, .int .i64 t0, .bool t1, .string (bs t2)] 44) := by rw [hV9]; exact row_otherR (by omega) (row_alloc (heap_alloc_new V20 _) _) _
            have hH9 : Hid (V9.heap[gH1]? = some (.cells #[.int .i64 a0, .bool a1, .string (bs a2)] 23 (0, 0))) := Lib.hid (by rw [hV9]; exact row_otherR (by omega) (row_alloc (row_alloc H2.out _) _) _)
            have hX9 : Hid (V9.heap[g]? = some (.cells (chgVs (X.set M.length (cs, t0, t1, t2))).toArray 44 (0, 0))) := Lib.hid (by rw [hV9]; exact setRow_heap _ g _ _ _ _ (row_alloc (row_alloc hX.out _) _))
            have m1 : V9.cell? ⟨V20.heap.size, 1, none⟩ = some (.int .i64 t0) := cry hC9
            have m2 : V9.cell? ⟨V20.heap.size, 2, none⟩ = some (.bool t1) := cry hC9
            have m3 : V9.cell? ⟨V20.heap.size, 3, none⟩ = some (.string (bs t2)) := cry hC9
            have hXY : Hid ((∀ q, i + 1 ≤ q → q < L.length → (X.set M.length (cs, t0, t1, t2))[q]! = L[q]!) ∧ (∀ q, q < (alnL (L.take (i + 1)) wv).length → (X.set M.length (cs, t0, t1, t2))[q]! = (alnL (L.take (i + 1)) wv)[q]!)) := Lib.hid ⟨fun q h1 h2 => by
              rw [set_at (by omega) (by omega), if_neg (by omega)]
              exact hXX.out.1 q (by omega) h2, fun q hq => by
              rw [E.out] at hq ⊢
              rw [List.length_append, List.length_singleton] at hq
              rw [set_at (by omega) (by omega), app_at hq]
              by_cases e : q = M.length
              · rw [if_pos e, if_pos e]
              · rw [if_neg e, if_neg e]; exact hXX.out.2 q (by omega)⟩
            clear hV9 hC9 hnw
            by_cases p0 : t0 = a0
            · subst p0
              by_cases p1 : t1 = a1
              · subst p1
                have p2 : ¬ (bs t2).toList = (bs a2).toList := fun e => q0 (by rw [bs_list, bs_list] at e; rw [e])
                clear q0
                generalize bs a2 = sa at *
                go_wp2_with (first
                  | (at_builtin
                     refine wpList_append_here rfl (.tmp 41) (.tmp 43) 39 rfl _ _ _ _ _ rfl rfl (hap2 _) ?_
                     rw [← HV9.out])
                  | (refine wpList_store_row (by rfl) 23 _ _ (by rfl) gH1 #[.int .i64 t0, .bool t1, .string (bs t2)] (by rfl) (by rfl) _ _ hH9.out (by kernel_rfl) (by rfl) (by simp [Value.oneCell']) ?_))
                go_roundw
                case rel => exact ⟨i + 1, X.set M.length (cs, t0, t1, t2), by omega, by go_num, by rw [E.out, List.length_append]; rfl, Lib.hid (keepRow hB9.out (by omega) _), Lib.hid (by rw [hnext.out]; exact setRow_heap V9 gH1 _ _ _ _ hH9.out), Lib.hid (row_otherR (by omega) hX9.out _), by simp [hXl], hXY⟩
                case measure => simp [intOf]; omega
              · have p1b : (t1 == a1) = false := beq_false_of_ne p1
                clear q0
                go_wp2_with (first
                  | (at_builtin
                     refine wpList_append_here rfl (.tmp 41) (.tmp 43) 39 rfl _ _ _ _ _ rfl rfl (hap2 _) ?_
                     rw [← HV9.out])
                  | (refine wpList_store_row (by rfl) 23 _ _ (by rfl) gH1 #[.int .i64 t0, .bool t1, .string (bs t2)] (by rfl) (by rfl) _ _ hH9.out (by kernel_rfl) (by rfl) (by simp [Value.oneCell']) ?_))
                go_roundw
                case rel => exact ⟨i + 1, X.set M.length (cs, t0, t1, t2), by omega, by go_num, by rw [E.out, List.length_append]; rfl, Lib.hid (keepRow hB9.out (by omega) _), Lib.hid (by rw [hnext.out]; exact setRow_heap V9 gH1 _ _ _ _ hH9.out), Lib.hid (row_otherR (by omega) hX9.out _), by simp [hXl], hXY⟩
                case measure => simp [intOf]; omega
            · have p0b : (t0 == a0) = false := beq_false_of_ne p0
              clear q0
              go_wp2_with (first
                | (at_builtin
                   refine wpList_append_here rfl (.tmp 41) (.tmp 43) 39 rfl _ _ _ _ _ rfl rfl (hap2 _) ?_
                   rw [← HV9.out])
                | (refine wpList_store_row (by rfl) 23 _ _ (by rfl) gH1 #[.int .i64 t0, .bool t1, .string (bs t2)] (by rfl) (by rfl) _ _ hH9.out (by kernel_rfl) (by rfl) (by simp [Value.oneCell']) ?_))
              go_roundw
              case rel => exact ⟨i + 1, X.set M.length (cs, t0, t1, t2), by omega, by go_num, by rw [E.out, List.length_append]; rfl, Lib.hid (keepRow hB9.out (by omega) _), Lib.hid (by rw [hnext.out]; exact setRow_heap V9 gH1 _ _ _ _ hH9.out), Lib.hid (row_otherR (by omega) hX9.out _), by simp [hXl], hXY⟩
              case measure => simp [intOf]; omega
        · obtain rfl : i = L.length := by omega
          have hkT : ¬ ((L.length : Int) < (L.length : Int)) := by omega
          rw [List.take_length] at hXX
          have hfin : Hid (Rd V20 (some ⟨g, 0, none⟩) (chgVs (alnL L wv))) := Lib.hid (rd_head (rd_exact hX.out) (by have := alnL_len L wv; omega) hXX.out.2)
          have hal := alnL_len L wv
          rw [List.take_length]
          clear hlt
          go_wp2
          go_ret2
          exact ⟨alnL L wv, some ⟨g, 0, none⟩, L.length, rfl, hfin.out, hP2.out, by omega, hBw.out⟩
  · have HE : Hid (∀ w, (KX w ∧ Rd w A (linVs z.lns)) → Calls Tryz.prog 13 #[srcV z A c, .int .i64 f, .int .i64 t] w fun e w' => e = .returned (.tuple #[.slice none 0 0, .int .i64 (evE z f t)]) ∧ Below w.heap.size w w') := Lib.hid (fun w h => xEvents_no z A c f t hE w h.1 h.2 hz)
    have hP : Hid (ChP YF z f t []) := Lib.hid ⟨[], evP_no hE, rfl⟩
    have f0 : (evE z f t != 0) = true := bne_iff_ne.2 hE
    generalize ChP YF z f t = CP at *
    generalize evE z f t = C at *
    obtain ⟨nam, off, dst, abb, ls⟩ := z
    unfold srcV at *
    simp only at *
    clear hE hK h hz
    go_enter Tryz.func16, Tryz.ntmps16
    go_wp2_with fail
    
    refine (HE.out _ (by first | exact rdk_keep hM ((Below.refl w.heap.size w).alloc (Nat.le_refl _) _))).mono ?_
    rintro e V1 ⟨rfl, hb1⟩
    have B1 := nby hb1
    have S1 := Lib.hid (row_call hb1 (heap_alloc_new _ _))
    clear hb1
    obtain ⟨S1_0, S1_1, S1_2, S1_3, S1_4⟩ := qw5 S1
    have zS1 := lt_of_heap S1.out
    go_simp
    go_wp2
    go_ret2
    exact ⟨[], none, 0, rfl, fun j u hu => by simp [chgVs] at hu, hP.out, by simp, B1.out⟩
end Go.Proofs.YtacpcjdiljnlaaaGreatDoor
