/- Several texts in one: LexH, LexI, LexP. -/
import Derived.Test.YteinjdmkmfeniaaGreatDoorZLex1
import Derived.Test.YteinjdmkmfeniaaGreatDoorShelf
import Derived.Test.YteinjdmkmfeniaaGreatDoorZOwnA1
import Derived.Test.YteinjdmkmfeniaaGreatDoorZBldA1
import Derived.Lib.OthersKept
import Derived.Deep.RegionLaw
import Derived.Deep.AppendLies
import Derived.BigQuiet
namespace Go.Proofs.YteinjdmkmfeniaaGreatDoor
set_option linter.unusedVariables false
set_option linter.unusedSimpArgs false
open Go.ChangeShapes Go.WideShapes Go.ChangeAt Go.RowKit
theorem infoRune : (Tryz.prog.info? 21).map (fun i => (i.zero, i.size, i.bytes)) = some (some (.int .i32 0), 1, 4) := by kernel_rfl
structure LxH (B : Nat) (w0 w : World) (M IT : Nat) (s : ByteArray) (pos : Nat) (o : List Tok) (c : List Int) (n : Int) (b od : Bool) (v u : Value) : Prop where
  row : w.heap[M]? = some (.cells #[v, u, .int .i64 n, .bool b, .bool od] 76 (0, 0))
  it : w.heap[IT]? = some (.stringIter s pos)
  ov : w.ownsRow B 59 2 v o.length (tokVs o)
  ou : w.ownsRow B 21 1 u c.length (c.map (Value.int .i32))
  bM : B ≤ M
  bI : B ≤ IT
  bel : Below B w0 w
  sz : B ≤ w.heap.size
def LxG (B : Nat) (w0 w : World) (M IT : Nat) (s : ByteArray) (pos : Nat) (R : Rg) : Prop := ∃ v u, LxH B w0 w M IT s pos R.out R.cur R.ln R.note R.odd v u
section
variable {B : Nat} {w0 w : World} {M IT : Nat} {s : ByteArray} {pos : Nat} {o : List Tok} {c : List Int} {n : Int} {b od : Bool} {v u : Value}
theorem LxH.MI (h : LxH B w0 w M IT s pos o c n b od v u) : IT ≠ M := by
  rintro rfl
  have := h.it
  rw [h.row] at this
  cases this
theorem LxH.vM (h : LxH B w0 w M IT s pos o c n b od v u) : v.ownBlock ≠ some M := own_kind h.ov h.row (fun c fz e => by injection e with _ e2; exact absurd e2 (by decide))
theorem LxH.uM (h : LxH B w0 w M IT s pos o c n b od v u) : u.ownBlock ≠ some M := own_kind h.ou h.row (fun c fz e => by injection e with _ e2; exact absurd e2 (by decide))
theorem LxH.vI (h : LxH B w0 w M IT s pos o c n b od v u) : v.ownBlock ≠ some IT := own_kind h.ov h.it (fun c fz e => by cases e)
theorem LxH.uI (h : LxH B w0 w M IT s pos o c n b od v u) : u.ownBlock ≠ some IT := own_kind h.ou h.it (fun c fz e => by cases e)
theorem LxH.vu (h : LxH B w0 w M IT s pos o c n b od v u) {g : Nat} (hg : v.ownBlock = some g) : u.ownBlock ≠ some g := by
  obtain ⟨c1, fz1, h1⟩ := own_some h.ov hg
  exact own_kind h.ou h1 (fun c fz e => by injection e with _ e2; exact absurd e2 (by decide))
theorem LxH.uv (h : LxH B w0 w M IT s pos o c n b od v u) {g : Nat} (hg : u.ownBlock = some g) : v.ownBlock ≠ some g := fun e => h.vu e hg
theorem LxH.ltM (h : LxH B w0 w M IT s pos o c n b od v u) : M < w.heap.size := (Array.getElem?_eq_some_iff.1 h.row).1
theorem LxH.ltI (h : LxH B w0 w M IT s pos o c n b od v u) : IT < w.heap.size := (Array.getElem?_eq_some_iff.1 h.it).1
theorem LxH.drew (h : LxH B w0 w M IT s pos o c n b od v u) : LxH B w0 w.drew M IT s pos o c n b od v u := ⟨h.row, h.it, h.ov, h.ou, h.bM, h.bI, ⟨h.bel.os, h.bel.tape, h.bel.output, h.bel.size, h.bel.block⟩, h.sz⟩
theorem LxH.drewN (h : LxH B w0 w M IT s pos o c n b od v u) (q : Nat) : LxH B w0 (w.drewN q) M IT s pos o c n b od v u := ⟨h.row, h.it, h.ov, h.ou, h.bM, h.bI, ⟨h.bel.os, h.bel.tape, h.bel.output, h.bel.size, h.bel.block⟩, h.sz⟩
theorem LxH.set (h : LxH B w0 w M IT s pos o c n b od v u) (j : Nat) (a : Value) {c' : List Int} {n' : Int} {b' od' : Bool} {u' : Value}
    (hr : (#[v, u, .int .i64 n, .bool b, .bool od] : Array Value).setIfInBounds j a = #[v, u', .int .i64 n', .bool b', .bool od'])
    (hu : w.ownsRow B 21 1 u' c'.length (c'.map (Value.int .i32))) : LxH B w0 (w.setCell ⟨M, j, none⟩ a) M IT s pos o c' n' b' od' v u' := by
  have huM : u'.ownBlock ≠ some M := own_kind hu h.row (fun c fz e => by injection e with _ e2; exact absurd e2 (by decide))
  refine ⟨by rw [row_set1 h.row, hr], row_other1 h.MI h.it j a, own_stay h.ov (fun g hg => row_other1 (fun e => h.vM (by rw [hg, e])) rfl j a), own_stay hu (fun g hg => row_other1 (fun e => huM (by rw [hg, e])) rfl j a), h.bM, h.bI, h.bel.setCell (by exact h.bM) _, ?_⟩
  have e := h.sz
  simpa [World.setCell] using e
theorem LxH.next (h : LxH B w0 w M IT s pos o c n b od v u) (p : Nat) : LxH B w0 (w.iterAt IT s p) M IT s p o c n b od v u := by
  refine ⟨(Lib.iterAt_other w IT M s p (Ne.symm h.MI)).trans h.row, Lib.iterAt_heap w IT s pos p h.it, own_stay h.ov (fun g hg => Lib.iterAt_other w IT g s p (fun e => h.vI (by rw [hg, e]))), own_stay h.ou (fun g hg => Lib.iterAt_other w IT g s p (fun e => h.uI (by rw [hg, e]))), h.bM, h.bI, Lib.below_iterAt h.bel h.bI s p, ?_⟩
  rw [Lib.iterAt_size]
  exact h.sz
theorem LxH.tok (h : LxH B w0 w M IT s pos o c n b od v u) {w1 : World} {x : Obj} {g cap : Nat} {t : List UInt8} (hown : w1.ownsRow B 59 2 (.slice (some ⟨g, 0, none⟩) (o.length + 1) cap) (o.length + 1) (tokVs o ++ [.string (bs t), .int .i64 n])) (hg : (w.alloc x).grownBy w1 v.ownBlock) :
    w1.heap[M]? = some (.cells #[v, u, .int .i64 n, .bool b, .bool od] 76 (0, 0)) ∧ LxH B w0 (w1.setCell ⟨M, 0, none⟩ (.slice (some ⟨g, 0, none⟩) (o.length + 1) cap)) M IT s pos (o ++ [(t, n)]) c n b od (.slice (some ⟨g, 0, none⟩) (o.length + 1) cap) u := by
  have keep : ∀ k, k < w.heap.size → v.ownBlock ≠ some k → w1.heap[k]? = w.heap[k]? := fun k hk hne => app_keep hg hk hne
  have r1 := (keep M h.ltM h.vM).trans h.row
  have i1 := (keep IT h.ltI h.vI).trans h.it
  have u1 : w1.ownsRow B 21 1 u c.length (c.map (Value.int .i32)) := own_stay h.ou (fun g2 hg2 => by
    obtain ⟨c2, f2, h2⟩ := own_some h.ou hg2
    exact keep g2 (Array.getElem?_eq_some_iff.1 h2).1 (h.uv hg2))
  have v1 : w1.ownsRow B 59 2 (.slice (some ⟨g, 0, none⟩) (o.length + 1) cap) (o ++ [(t, n)]).length (tokVs (o ++ [(t, n)])) := by
    rw [tokVs_snoc, List.length_append]
    exact hown
  have vM : Value.ownBlock (.slice (some ⟨g, 0, none⟩) (o.length + 1) cap) ≠ some M := own_kind v1 r1 (fun c fz e => by injection e with _ e2; exact absurd e2 (by decide))
  have uM : u.ownBlock ≠ some M := h.uM
  have hs := hg.size
  have hs2 : (w.alloc x).heap.size = w.heap.size + 1 := by simp
  have hs3 := h.sz
  refine ⟨r1, by rw [row_set1 r1]; rfl, row_other1 h.MI i1 0 _, own_stay v1 (fun k hk => row_other1 (fun e => vM (by rw [hk, e])) rfl 0 _), own_stay u1 (fun k hk => row_other1 (fun e => uM (by rw [hk, e])) rfl 0 _), h.bM, h.bI, (bel_append h.bel h.sz h.ov hg).setCell (by exact h.bM) _, ?_⟩
  have e : B ≤ w1.heap.size := by omega
  simpa [World.setCell] using e
theorem LxH.cur (h : LxH B w0 w M IT s pos o c n b od v u) {w1 : World} {x : Obj} {g cap : Nat} {r : Int} (hown : w1.ownsRow B 21 1 (.slice (some ⟨g, 0, none⟩) (c.length + 1) cap) (c.length + 1) (c.map (Value.int .i32) ++ [.int .i32 r])) (hg : (w.alloc x).grownBy w1 u.ownBlock) :
    w1.heap[M]? = some (.cells #[v, u, .int .i64 n, .bool b, .bool od] 76 (0, 0)) ∧ LxH B w0 (w1.setCell ⟨M, 1, none⟩ (.slice (some ⟨g, 0, none⟩) (c.length + 1) cap)) M IT s pos o (c ++ [r]) n b od v (.slice (some ⟨g, 0, none⟩) (c.length + 1) cap) := by
  have keep : ∀ k, k < w.heap.size → u.ownBlock ≠ some k → w1.heap[k]? = w.heap[k]? := fun k hk hne => app_keep hg hk hne
  have r1 := (keep M h.ltM h.uM).trans h.row
  have i1 := (keep IT h.ltI h.uI).trans h.it
  have v1 : w1.ownsRow B 59 2 v o.length (tokVs o) := own_stay h.ov (fun g2 hg2 => by
    obtain ⟨c2, f2, h2⟩ := own_some h.ov hg2
    exact keep g2 (Array.getElem?_eq_some_iff.1 h2).1 (h.vu hg2))
  have u1 : w1.ownsRow B 21 1 (.slice (some ⟨g, 0, none⟩) (c.length + 1) cap) (c ++ [r]).length ((c ++ [r]).map (Value.int .i32)) := by
    rw [List.map_append, List.length_append]
    exact hown
  have uM : Value.ownBlock (.slice (some ⟨g, 0, none⟩) (c.length + 1) cap) ≠ some M := own_kind u1 r1 (fun c fz e => by injection e with _ e2; exact absurd e2 (by decide))
  have vM : v.ownBlock ≠ some M := h.vM
  have hs := hg.size
  have hs2 : (w.alloc x).heap.size = w.heap.size + 1 := by simp
  have hs3 := h.sz
  refine ⟨r1, by rw [row_set1 r1]; rfl, row_other1 h.MI i1 1 _, own_stay v1 (fun k hk => row_other1 (fun e => vM (by rw [hk, e])) rfl 1 _), own_stay u1 (fun k hk => row_other1 (fun e => uM (by rw [hk, e])) rfl 1 _), h.bM, h.bI, (bel_append h.bel h.sz h.ou hg).setCell (by exact h.bM) _, ?_⟩
  have e : B ≤ w1.heap.size := by omega
  simpa [World.setCell] using e
end
set_option maxHeartbeats 1600000 in
theorem pLexAdd_any {B : Nat} {w0 : World} {M IT : Nat} {s : ByteArray} {pos : Nat} {o : List Tok} {c : List Int} {n : Int} {b od : Bool} {v u : Value} (t : List UInt8) (w : World) (h : LxH B w0 w M IT s pos o c n b od v u) (hl : o.length ≤ 20000) :
    Calls Tryz.prog 59 #[.pointer (some ⟨M, 0, none⟩), .string (bs t)] w fun e w' => e = .returned (.tuple #[]) ∧ ∃ v', LxH B w0 w' M IT s pos (o ++ [(t, n)]) c n b od v' u := by
  obtain ⟨i0, hi, hz0, hz1, hz2⟩ := info_parts infoTok
  have c0 : w.cell? ⟨M, 0, none⟩ = some v := by rw [Lib.cell_of_heap h.row]; rfl
  have c2 : w.cell? ⟨M, 2, none⟩ = some (.int .i64 n) := by rw [Lib.cell_of_heap h.row]; rfl
  have f0 : w.frozen? ⟨M, 0, none⟩ = false := Lib.frozen_of_heap h.row 0
  have hsz := h.sz
  have hov := h.ov
  have hlt := h.ltM
  have H := Lib.hid h
  clear h
  obtain ⟨A0, k0, g0, rfl, _⟩ := own_form hov
  go_enter Tryz.func59, Tryz.ntmps59
  go_wp2_with fail
  go_region_law
    ((refine step_append_lies _ (by rfl) _ _ _ (by rfl) B 59 i0 (.agg #[.string ⟨#[]⟩, .int .i64 0]) 2 24 Tryz.underlying42 hi hz0 hz1 hz2 rfl (by omega) (.slice A0 o.length k0) o.length (tokVs o) (by rfl) ((hov.alloc _).drew)
        ⟨w.heap.size, 0, none⟩ 1 1 [.string (bs t), .int .i64 n] (by rfl) (by rfl) (World.news_of_block (cs := #[.string (bs t), .int .i64 n]) (t := 59) (fr := (0, 0)) (heap_alloc_new w _)) (one2 rfl rfl)
        (by omega) (by unfold maxLen; omega) (by omega) (by simp; omega) (w.heap.size + 1) (by simp) ?_; intro gg cap w1 hown1 hgrow hat hlt1; (have HT := Lib.hid (H.out.drew.tok hown1 hgrow)); (have d0 : w1.cell? ⟨M, 0, none⟩ = some (.slice A0 o.length k0) := by rw [Lib.cell_of_heap HT.out.1]; rfl); (have e0 : w1.frozen? ⟨M, 0, none⟩ = false := Lib.frozen_of_heap HT.out.1 0)))
  all_goals
    go_wp2
    go_end0
    exact ⟨rfl, _, HT.out.2⟩
set_option maxHeartbeats 1600000 in
theorem pLexWord_any {B : Nat} {w0 : World} {M IT : Nat} {s : ByteArray} {pos : Nat} {o : List Tok} {c : List Int} {n : Int} {b od : Bool} {v u : Value} (w : World) (h : LxH B w0 w M IT s pos o c n b od v u) (hl : o.length ≤ 20000) :
    Calls Tryz.prog 58 #[.pointer (some ⟨M, 0, none⟩)] w fun e w' => e = .returned (.tuple #[]) ∧ ∃ v' u', LxH B w0 w' M IT s pos (wdT o c n) [] n b od v' u' := by
  have hcl := h.ou.1
  obtain ⟨A1, k1, g1, rfl, hl1, hA1, hA0⟩ := own_form h.ou
  have c1 : w.cell? ⟨M, 1, none⟩ = some (.slice A1 c.length k1) := by rw [Lib.cell_of_heap h.row]; rfl
  by_cases hc : c = []
  · subst hc
    have e : wdT o [] n = o := if_pos rfl
    rw [e]
    have H := Lib.hid h
    clear h hl1 hA1 hA0
    go_enter Tryz.func58, Tryz.ntmps58
    go_wp2
    go_end0
    exact ⟨rfl, _, _, H.out⟩
  · have hc0 : 0 < c.length := List.length_pos_iff.2 hc
    obtain ⟨rfl, hg1, hg2⟩ := hA1 hc0
    have e : wdT o c n = o ++ [(rb c, n)] := if_neg hc
    rw [e]
    have hconv : (convert 74 9 (.slice (some ⟨g1, 0, none⟩) c.length k1)).run Tryz.prog w = .ok (.string (bs (rb c))) w := by
      rw [run_convert_runes w _ _ 21 ⟨g1, 0, none⟩ c.length k1 c (Nat.le_refl _) Tryz.underlying74 Tryz.underlying21 Tryz.underlying9 (fun j hj => ?_), List.take_length, bs_rb]
      have := hl1 j (.int .i32 (c.getD j 0)) (by simp [hj, List.getD])
      have hadd : (⟨g1, 0, none⟩ : Addr).add j = ⟨g1, j, none⟩ := by unfold Addr.add; split <;> simp_all
      rw [hadd, this]
    have H := Lib.hid h
    have HA := Lib.hid (pLexAdd_any (rb c) w h hl)
    generalize rb c = t at *
    clear h hl1 hA1 hA0 hc e
    go_enter Tryz.func58, Tryz.ntmps58
    go_wp2_with fail
    refine HA.out.mono ?_
    rintro e w1 ⟨rfl, v', h1⟩
    have d1 : w1.cell? ⟨M, 1, none⟩ = some (.slice (some ⟨g1, 0, none⟩) c.length k1) := by rw [Lib.cell_of_heap h1.row]; rfl
    have f1 : w1.frozen? ⟨M, 1, none⟩ = false := Lib.frozen_of_heap h1.row 1
    have hcut := own_cut h1.ou
    have HF := Lib.hid (h1.set 1 (.slice (some ⟨g1, 0, none⟩) 0 k1) (c' := []) (n' := n) (b' := b) (od' := od) rfl (by simpa using hcut))
    clear h1 hcut HA hconv
    go_wp2
    go_end0
    exact ⟨rfl, _, _, HF.out⟩
end Go.Proofs.YteinjdmkmfeniaaGreatDoor
namespace Go.Proofs.YteinjdmkmfeniaaGreatDoor
set_option linter.unusedVariables false
set_option linter.unusedSimpArgs false
open Go.ChangeShapes Go.WideShapes Go.ChangeAt Go.RowKit
theorem wdT_len (o : List Tok) (c : List Int) (n : Int) : (wdT o c n).length ≤ o.length + 1 := by unfold wdT; split <;> simp
theorem snoc_or (T : List Tok) : T = [] ∨ ∃ T' x m, T = T' ++ [(x, m)] := by
  rcases List.eq_nil_or_concat T with h | ⟨T', ⟨x, m⟩, h⟩
  · exact .inl h
  · exact .inr ⟨T', x, m, by rw [h, List.concat_eq_append]⟩
set_option maxHeartbeats 1600000 in
theorem pLexLine_any {B : Nat} {w0 : World} {M IT : Nat} {s : ByteArray} {pos : Nat} {o : List Tok} {c : List Int} {b od : Bool} {v u : Value} (n : Nat) (w : World) (h : LxH B w0 w M IT s pos o c (n : Int) b od v u) (hl : o.length ≤ 19000) (hn : n ≤ 100000) :
    Calls Tryz.prog 35 #[.pointer (some ⟨M, 0, none⟩)] w fun e w' => e = .returned (.tuple #[]) ∧ ∃ v' u', LxH B w0 w' M IT s pos (enT (wdT o c n) n) [] ((n : Int) + 1) false od v' u' := by
  have HW := Lib.hid (pLexWord_any w h (by omega))
  have hl1 := wdT_len o c n
  have hb0 := Lib.hid bs_nl
  have hw : IntKind.i64.wrap ((n : Int) + 1) = (n : Int) + 1 := wrap_small _ (by omega) (by omega)
  generalize wdT o c n = T at *
  clear h
  go_enter Tryz.func35, Tryz.ntmps35
  go_wp2_with fail
  refine HW.out.mono ?_
  rintro e w1 ⟨rfl, v1, u1, h1⟩
  clear HW
  obtain ⟨A1, k1, g1, rfl, -⟩ := own_form h1.ov
  have c0 : w1.cell? ⟨M, 0, none⟩ = some (.slice A1 T.length k1) := by rw [Lib.cell_of_heap h1.row]; rfl
  have c2 : w1.cell? ⟨M, 2, none⟩ = some (.int .i64 (n : Int)) := by rw [Lib.cell_of_heap h1.row]; rfl
  have S2 := fun q => (h1.drewN q).set 2 (.int .i64 ((n : Int) + 1)) (c' := []) (n' := (n : Int) + 1) (b' := b) (od' := od) rfl (h1.drewN q).ou
  have S3 := Lib.hid (fun q => (S2 q).set 3 (.bool false) (c' := []) (n' := (n : Int) + 1) (b' := false) (od' := od) rfl (S2 q).ou)
  have f2 : ∀ q, (w1.drewN q).frozen? ⟨M, 2, none⟩ = false := fun q => Lib.frozen_of_heap (h1.drewN q).row 2
  have c2q : ∀ q, (w1.drewN q).cell? ⟨M, 2, none⟩ = some (.int .i64 (n : Int)) := fun q => by rw [Lib.cell_of_heap (h1.drewN q).row]; rfl
  have f3' : ∀ q, ((w1.drewN q).setCell ⟨M, 2, none⟩ (.int .i64 ((n : Int) + 1))).frozen? ⟨M, 3, none⟩ = false := fun q => Lib.frozen_of_heap (S2 q).row 3
  have c3' : ∀ q, ((w1.drewN q).setCell ⟨M, 2, none⟩ (.int .i64 ((n : Int) + 1))).cell? ⟨M, 3, none⟩ = some (.bool b) := fun q => by rw [Lib.cell_of_heap (S2 q).row]; rfl
  clear S2
  rcases snoc_or T with rfl | ⟨T', x, m, rfl⟩
  · have e : enT [] (n : Int) = [] := rfl
    replace e := Lib.hid e
    replace h1 := Lib.hid h1
    go_wp2_with fail
    go_quiet (fail)
    go_wp2
    go_end0
    exact ⟨rfl, by rw [e.out]; exact ⟨_, _, S3.out _⟩⟩
  · have hN : (T' ++ [(x, m)]).length = T'.length + 1 := by simp
    have hR : Rd w1 A1 (tokVs (T' ++ [(x, m)])) := Rd.own h1.ov
    obtain ⟨b1, o1, rfl, hb1, hc⟩ := hR.tok (k := T'.length) (by omega)
    have hcell := (hc T'.length (by omega)).2
    have hg : (T' ++ [(x, m)])[T'.length] = (x, m) := by simp
    rw [hg] at hcell
    clear hc hR hg
    simp only [Nat.zero_add] at hcell
    by_cases hm : m = (n : Int)
    · have e : enT (T' ++ [(x, m)]) (n : Int) = T' ++ [(x, m)] ++ [([10], (n : Int))] := by
        unfold enT
        rw [hasL_snoc, if_pos (by rw [hm]; simp)]
      replace e := Lib.hid e
      have HA := fun q => pLexAdd_any [10] (w1.drewN q) (h1.drewN q) (by omega)
      rw [← hb0.out] at HA
      replace HA := Lib.hid HA
      have e1 : (m == (n : Int)) = true := by rw [hm]; simp
      replace hm := Lib.hid hm
      clear h1 hb0 S3 f3' c3' f2 c2q
      generalize hT : T' ++ [(x, m)] = T at *
      replace hT := Lib.hid hT
      generalize T.length = N at *
      generalize T'.length = q at *
      have hx : IntKind.i64.wrap ((N : Int) - 1) = (q : Int) := by rw [hN]; exact (wrap_small _ (by omega) (by omega)).trans (by omega)
      have hq0 : decide ((0 : Int) < (N : Int)) = true := decide_eq_true (by omega)
      have hq2 : 0 < N := by omega
      have hq1 : (0 : Int) ≤ (q : Int) ∧ (q : Int) < (N : Int) := by omega
      replace hN := Lib.hid hN
      go_wp2_with fail
      go_quiet (fail)
      go_wp2_with fail
      refine (HA.out _).mono ?_
      rintro e w2 ⟨rfl, v2, h2⟩
      clear HA hcell c0 c2 hb1
      have d2 : w2.cell? ⟨M, 2, none⟩ = some (.int .i64 (n : Int)) := by rw [Lib.cell_of_heap h2.row]; rfl
      have d3 : w2.frozen? ⟨M, 2, none⟩ = false := Lib.frozen_of_heap h2.row 2
      have S2 := h2.set 2 (.int .i64 ((n : Int) + 1)) (c' := []) (n' := (n : Int) + 1) (b' := b) (od' := od) rfl h2.ou
      have d4 : (w2.setCell ⟨M, 2, none⟩ (.int .i64 ((n : Int) + 1))).frozen? ⟨M, 3, none⟩ = false := Lib.frozen_of_heap S2.row 3
      have d5 : (w2.setCell ⟨M, 2, none⟩ (.int .i64 ((n : Int) + 1))).cell? ⟨M, 3, none⟩ = some (.bool b) := by rw [Lib.cell_of_heap S2.row]; rfl
      have S3 := Lib.hid (S2.set 3 (.bool false) (c' := []) (n' := (n : Int) + 1) (b' := false) (od' := od) rfl S2.ou)
      clear h2 S2
      go_wp2
      go_end0
      exact ⟨rfl, by rw [hT.out, e.out]; exact ⟨_, _, S3.out⟩⟩
    · have e : enT (T' ++ [(x, m)]) (n : Int) = T' ++ [(x, m)] := by
        unfold enT
        rw [hasL_snoc, if_neg (by simpa using hm)]
      replace e := Lib.hid e
      have e1 : (m == (n : Int)) = false := by simpa using hm
      replace hm := Lib.hid hm
      replace h1 := Lib.hid h1
      generalize hT : T' ++ [(x, m)] = T at *
      replace hT := Lib.hid hT
      generalize T.length = N at *
      generalize T'.length = q at *
      have hx : IntKind.i64.wrap ((N : Int) - 1) = (q : Int) := by rw [hN]; exact (wrap_small _ (by omega) (by omega)).trans (by omega)
      have hq0 : decide ((0 : Int) < (N : Int)) = true := decide_eq_true (by omega)
      have hq2 : 0 < N := by omega
      have hq1 : (0 : Int) ≤ (q : Int) ∧ (q : Int) < (N : Int) := by omega
      replace hN := Lib.hid hN
      clear h1
      go_wp2_with fail
      go_quiet (fail)
      go_wp2
      go_end0
      exact ⟨rfl, by rw [hT.out, e.out]; exact ⟨_, _, S3.out _⟩⟩
theorem pKnown_p (r : Int) (w : World) : Calls Tryz.prog 57 #[.int .i32 r] w fun e w' => e = .returned (.bool (knL r)) ∧ w = w' := by
  by_cases h1 : r = 10
  · subst h1
    go_enter Tryz.func57, Tryz.ntmps57
    go_wp2
    go_ret
    exact ⟨rfl, rfl⟩
  · by_cases h2 : r = 9
    · subst h2
      go_enter Tryz.func57, Tryz.ntmps57
      go_wp2
      go_ret
      exact ⟨rfl, rfl⟩
    · have e1 : (r == 10) = false := beq_false_of_ne h1
      have e2 : (r == 9) = false := beq_false_of_ne h2
      replace h1 := Lib.hid h1
      replace h2 := Lib.hid h2
      by_cases h3 : 32 ≤ r
      · have e3 : decide (32 ≤ r) = true := decide_eq_true h3
        by_cases h4 : r ≤ 126
        · have e4 : decide (r ≤ 126) = true := decide_eq_true h4
          have e : Hid (knL r = true) := Lib.hid (by unfold knL; rw [e1, e2, e3, e4]; rfl)
          go_enter Tryz.func57, Tryz.ntmps57
          go_wp2
          go_ret
          exact ⟨by rw [e.out]; rfl, rfl⟩
        · have e4 : decide (r ≤ 126) = false := decide_eq_false h4
          have e : Hid (knL r = false) := Lib.hid (by unfold knL; rw [e1, e2, e3, e4]; rfl)
          go_enter Tryz.func57, Tryz.ntmps57
          go_wp2
          go_ret
          exact ⟨by rw [e.out]; rfl, rfl⟩
      · have e3 : decide (32 ≤ r) = false := decide_eq_false h3
        have e : Hid (knL r = false) := Lib.hid (by unfold knL; rw [e1, e2, e3]; rfl)
        go_enter Tryz.func57, Tryz.ntmps57
        go_wp2
        go_ret
        exact ⟨by rw [e.out]; rfl, rfl⟩
theorem news1s (w : World) (a : Addr) (v : Value) (t : TypeId) (u : Value) : ∀ j x, [u][j]? = some x → ((w.setCell a v).alloc (.cells #[u] t)).cell? ((⟨w.heap.size, 0, none⟩ : Addr).add j) = some x := by
  have h := news1 (w.setCell a v) t u
  have hz : (w.setCell a v).heap.size = w.heap.size := by simp [World.setCell]
  rw [hz] at h
  exact h
theorem tk_nl {R : Rg} {r : Int} (h : r = 10) : rgGo R r = rgNl R := if_pos h
theorem tk_note {R : Rg} {r : Int} (h : r ≠ 10) (hn : R.note = true) : rgGo R r = R := by unfold rgGo; rw [if_neg h, if_pos hn]
theorem tk_hash {R : Rg} {r : Int} (h : r = 35) (hn : R.note = false) : rgGo R r = ⟨R.out, R.cur, R.ln, true, R.odd⟩ := by unfold rgGo; rw [if_neg (by omega), if_neg (by rw [hn]; decide), if_pos h]
theorem tk_blank {R : Rg} {r : Int} (h : r = 32 ∨ r = 9) (hn : R.note = false) : rgGo R r = rgWd R := by unfold rgGo; rw [if_neg (by omega), if_neg (by rw [hn]; decide), if_neg (by omega), if_pos h]
theorem tk_byte {R : Rg} {r : Int} (h1 : r ≠ 10) (h2 : r ≠ 35) (h3 : r ≠ 32) (h4 : r ≠ 9) (hn : R.note = false) : rgGo R r = ⟨R.out, R.cur ++ [r], R.ln, R.note, R.odd⟩ := by
  unfold rgGo; rw [if_neg h1, if_neg (by rw [hn]; decide), if_neg h2, if_neg (by omega)]
theorem LxH.odd {B : Nat} {w0 w : World} {M IT : Nat} {s : ByteArray} {pos : Nat} {o : List Tok} {c : List Int} {n : Int} {b od : Bool} {v u : Value} (h : LxH B w0 w M IT s pos o c n b od v u) (x : Bool) : LxH B w0 (w.setCell ⟨M, 4, none⟩ (.bool x)) M IT s pos o c n b x v u := h.set 4 (.bool x) rfl h.ou
set_option maxHeartbeats 3200000 in
theorem pTake_any {B : Nat} {w0 : World} {M IT : Nat} {s : ByteArray} {pos : Nat} {R : Rg} (r : Int) (k : Nat) (w : World) (hk : R.ln = (k : Int)) (h : LxG B w0 w M IT s pos R) (hl : R.out.length ≤ 18000) (hc : R.cur.length ≤ 18000) (hn : k ≤ 100000) :
    Calls Tryz.prog 34 #[.pointer (some ⟨M, 0, none⟩), .int .i32 r] w fun e w' => e = .returned (.tuple #[]) ∧ LxG B w0 w' M IT s pos (rgTk R r) := by
  obtain ⟨o, c, n, b, od⟩ := R
  obtain ⟨v, u, h⟩ := h
  simp only at h hl hc hk
  subst hk
  obtain ⟨i0, hi, hz0, hz1, hz2⟩ := info_parts infoRune
  obtain ⟨kb, hkb⟩ : ∃ kb, kb = knL r := ⟨_, rfl⟩
  have HK := Lib.hid (pKnown_p r)
  rw [← hkb] at HK
  have E0 : rgTk ⟨o, c, (k : Int), b, od⟩ r = rgGo ⟨o, c, (k : Int), b, od || !kb⟩ r := by unfold rgTk; rw [hkb]
  have c4 : w.cell? ⟨M, 4, none⟩ = some (.bool od) := by rw [Lib.cell_of_heap h.row]; rfl
  have f4 : w.frozen? ⟨M, 4, none⟩ = false := Lib.frozen_of_heap h.row 4
  have H := h.odd (od || !kb)
  have hcl := h.ou.1
  clear h hkb
  cases od
  · cases kb
    · have H : LxH B w0 (w.setCell ⟨M, 4, none⟩ (.bool true)) M IT s pos o c (k : Int) b true v u := H
      have c3 : (w.setCell ⟨M, 4, none⟩ (.bool true)).cell? ⟨M, 3, none⟩ = some (.bool b) := by rw [Lib.cell_of_heap H.row]; rfl
      have f3 : (w.setCell ⟨M, 4, none⟩ (.bool true)).frozen? ⟨M, 3, none⟩ = false := Lib.frozen_of_heap H.row 3
      have c1 : (w.setCell ⟨M, 4, none⟩ (.bool true)).cell? ⟨M, 1, none⟩ = some u := by rw [Lib.cell_of_heap H.row]; rfl
      by_cases h10 : r = 10
      · have e10 : (r == 10) = true := by rw [h10]; rfl
        have E : Hid (rgTk _ r = rgNl _) := Lib.hid (E0.trans (tk_nl h10))
        have HL := Lib.hid (pLexLine_any k _ H (by omega) hn)
        replace h10 := Lib.hid h10
        clear H E0 c1
        go_enter Tryz.func34, Tryz.ntmps34
        go_wp2_with fail
        refine (HK.out _).mono ?_
        rintro e w1 ⟨rfl, rfl⟩
        go_wp2_with fail
        refine HL.out.mono ?_
        rintro e w2 ⟨rfl, v2, u2, h2⟩
        replace h2 := Lib.hid h2
        go_wp2
        go_end0
        exact ⟨rfl, by rw [E.out]; exact ⟨_, _, h2.out⟩⟩
      have e10 : (r == 10) = false := beq_false_of_ne h10
      cases b
      · by_cases h35 : r = 35
        · have e35 : (r == 35) = true := by rw [h35]; rfl
          have E : Hid (rgTk _ r = _) := Lib.hid (E0.trans (tk_hash h35 rfl))
          have HS := Lib.hid (H.set 3 (.bool true) (c' := c) (n' := (k : Int)) (b' := true) (od' := true) rfl H.ou)
          replace h10 := Lib.hid h10
          replace h35 := Lib.hid h35
          clear H E0 c1
          go_enter Tryz.func34, Tryz.ntmps34
          go_wp2_with fail
          refine (HK.out _).mono ?_
          rintro e w1 ⟨rfl, rfl⟩
          go_wp2
          go_end0
          exact ⟨rfl, by rw [E.out]; exact ⟨_, _, HS.out⟩⟩
        have e35 : (r == 35) = false := beq_false_of_ne h35
        by_cases hb : r = 32 ∨ r = 9
        · have E : Hid (rgTk _ r = _) := Lib.hid (E0.trans (tk_blank hb rfl))
          have HW := Lib.hid (pLexWord_any _ H (by omega))
          replace h10 := Lib.hid h10
          replace h35 := Lib.hid h35
          clear H E0 c1
          rcases hb with hb | hb
          · have e32 : (r == 32) = true := by rw [hb]; rfl
            replace hb := Lib.hid hb
            go_enter Tryz.func34, Tryz.ntmps34
            go_wp2_with fail
            refine (HK.out _).mono ?_
            rintro e w1 ⟨rfl, rfl⟩
            go_wp2_with fail
            refine HW.out.mono ?_
            rintro e w2 ⟨rfl, v2, u2, h2⟩
            replace h2 := Lib.hid h2
            go_wp2
            go_end0
            exact ⟨rfl, by rw [E.out]; exact ⟨_, _, h2.out⟩⟩
          · have e32 : (r == 32) = false := beq_false_of_ne (by omega)
            have e9 : (r == 9) = true := by rw [hb]; rfl
            replace hb := Lib.hid hb
            go_enter Tryz.func34, Tryz.ntmps34
            go_wp2_with fail
            refine (HK.out _).mono ?_
            rintro e w1 ⟨rfl, rfl⟩
            go_wp2_with fail
            refine HW.out.mono ?_
            rintro e w2 ⟨rfl, v2, u2, h2⟩
            replace h2 := Lib.hid h2
            go_wp2
            go_end0
            exact ⟨rfl, by rw [E.out]; exact ⟨_, _, h2.out⟩⟩
        · have E : Hid (rgTk _ r = _) := Lib.hid (E0.trans (tk_byte h10 h35 (by omega) (by omega) rfl))
          have e32 : (r == 32) = false := beq_false_of_ne (by omega)
          have e9 : (r == 9) = false := beq_false_of_ne (by omega)
          replace h10 := Lib.hid h10
          replace h35 := Lib.hid h35
          replace hb := Lib.hid hb
          have hou := H.ou
          have hsz := H.sz
          obtain ⟨A1, k1, g1, rfl, -⟩ := own_form hou
          replace H := Lib.hid H
          clear E0
          go_enter Tryz.func34, Tryz.ntmps34
          go_wp2_with fail
          refine (HK.out _).mono ?_
          rintro e w1 ⟨rfl, rfl⟩
          go_wp2_with (first
            | (at_builtin
               refine wpList_append_lies _ rfl (.tmp 20) (.tmp 22) 74 rfl B 21 i0 (.int .i32 0) 1 4 Tryz.underlying74 hi hz0 hz1 hz2 rfl (by decide) _ _ _ rfl (hou.alloc _) ⟨w.heap.size, 0, none⟩ 1 1 [.int .i32 r] rfl rfl (news1s w _ _ _ _) (one1 rfl) (by decide) (by unfold maxLen; omega) (by omega) (by simp at hsz ⊢; omega) _ rfl ?_
               intro g cap w3 hown1 hgrow hat hlt1
               have HT := Lib.hid (H.out.cur hown1 hgrow)
               have d1 : w3.cell? ⟨M, 1, none⟩ = some (.slice A1 c.length k1) := by rw [Lib.cell_of_heap HT.out.1]; rfl
               have g1 : w3.frozen? ⟨M, 1, none⟩ = false := Lib.frozen_of_heap HT.out.1 1
               clear hown1 hgrow hat hlt1)
            | fail)
          go_wp2
          go_end0
          exact ⟨rfl, by rw [E.out]; exact ⟨_, _, HT.out.2⟩⟩
      · have E : Hid (rgTk _ r = _) := Lib.hid (E0.trans (tk_note h10 rfl))
        replace h10 := Lib.hid h10
        replace H := Lib.hid H
        clear E0 c1
        go_enter Tryz.func34, Tryz.ntmps34
        go_wp2_with fail
        refine (HK.out _).mono ?_
        rintro e w1 ⟨rfl, rfl⟩
        go_wp2
        go_end0
        exact ⟨rfl, by rw [E.out]; exact ⟨_, _, H.out⟩⟩
    · have H : LxH B w0 (w.setCell ⟨M, 4, none⟩ (.bool false)) M IT s pos o c (k : Int) b false v u := H
      have c3 : (w.setCell ⟨M, 4, none⟩ (.bool false)).cell? ⟨M, 3, none⟩ = some (.bool b) := by rw [Lib.cell_of_heap H.row]; rfl
      have f3 : (w.setCell ⟨M, 4, none⟩ (.bool false)).frozen? ⟨M, 3, none⟩ = false := Lib.frozen_of_heap H.row 3
      have c1 : (w.setCell ⟨M, 4, none⟩ (.bool false)).cell? ⟨M, 1, none⟩ = some u := by rw [Lib.cell_of_heap H.row]; rfl
      by_cases h10 : r = 10
      · have e10 : (r == 10) = true := by rw [h10]; rfl
        have E : Hid (rgTk _ r = rgNl _) := Lib.hid (E0.trans (tk_nl h10))
        have HL := Lib.hid (pLexLine_any k _ H (by omega) hn)
        replace h10 := Lib.hid h10
        clear H E0 c1
        go_enter Tryz.func34, Tryz.ntmps34
        go_wp2_with fail
        refine (HK.out _).mono ?_
        rintro e w1 ⟨rfl, rfl⟩
        go_wp2_with fail
        refine HL.out.mono ?_
        rintro e w2 ⟨rfl, v2, u2, h2⟩
        replace h2 := Lib.hid h2
        go_wp2
        go_end0
        exact ⟨rfl, by rw [E.out]; exact ⟨_, _, h2.out⟩⟩
      have e10 : (r == 10) = false := beq_false_of_ne h10
      cases b
      · by_cases h35 : r = 35
        · have e35 : (r == 35) = true := by rw [h35]; rfl
          have E : Hid (rgTk _ r = _) := Lib.hid (E0.trans (tk_hash h35 rfl))
          have HS := Lib.hid (H.set 3 (.bool true) (c' := c) (n' := (k : Int)) (b' := true) (od' := false) rfl H.ou)
          replace h10 := Lib.hid h10
          replace h35 := Lib.hid h35
          clear H E0 c1
          go_enter Tryz.func34, Tryz.ntmps34
          go_wp2_with fail
          refine (HK.out _).mono ?_
          rintro e w1 ⟨rfl, rfl⟩
          go_wp2
          go_end0
          exact ⟨rfl, by rw [E.out]; exact ⟨_, _, HS.out⟩⟩
        have e35 : (r == 35) = false := beq_false_of_ne h35
        by_cases hb : r = 32 ∨ r = 9
        · have E : Hid (rgTk _ r = _) := Lib.hid (E0.trans (tk_blank hb rfl))
          have HW := Lib.hid (pLexWord_any _ H (by omega))
          replace h10 := Lib.hid h10
          replace h35 := Lib.hid h35
          clear H E0 c1
          rcases hb with hb | hb
          · have e32 : (r == 32) = true := by rw [hb]; rfl
            replace hb := Lib.hid hb
            go_enter Tryz.func34, Tryz.ntmps34
            go_wp2_with fail
            refine (HK.out _).mono ?_
            rintro e w1 ⟨rfl, rfl⟩
            go_wp2_with fail
            refine HW.out.mono ?_
            rintro e w2 ⟨rfl, v2, u2, h2⟩
            replace h2 := Lib.hid h2
            go_wp2
            go_end0
            exact ⟨rfl, by rw [E.out]; exact ⟨_, _, h2.out⟩⟩
          · have e32 : (r == 32) = false := beq_false_of_ne (by omega)
            have e9 : (r == 9) = true := by rw [hb]; rfl
            replace hb := Lib.hid hb
            go_enter Tryz.func34, Tryz.ntmps34
            go_wp2_with fail
            refine (HK.out _).mono ?_
            rintro e w1 ⟨rfl, rfl⟩
            go_wp2_with fail
            refine HW.out.mono ?_
            rintro e w2 ⟨rfl, v2, u2, h2⟩
            replace h2 := Lib.hid h2
            go_wp2
            go_end0
            exact ⟨rfl, by rw [E.out]; exact ⟨_, _, h2.out⟩⟩
        · have E : Hid (rgTk _ r = _) := Lib.hid (E0.trans (tk_byte h10 h35 (by omega) (by omega) rfl))
          have e32 : (r == 32) = false := beq_false_of_ne (by omega)
          have e9 : (r == 9) = false := beq_false_of_ne (by omega)
          replace h10 := Lib.hid h10
          replace h35 := Lib.hid h35
          replace hb := Lib.hid hb
          have hou := H.ou
          have hsz := H.sz
          obtain ⟨A1, k1, g1, rfl, -⟩ := own_form hou
          replace H := Lib.hid H
          clear E0
          go_enter Tryz.func34, Tryz.ntmps34
          go_wp2_with fail
          refine (HK.out _).mono ?_
          rintro e w1 ⟨rfl, rfl⟩
          go_wp2_with (first
            | (at_builtin
               refine wpList_append_lies _ rfl (.tmp 20) (.tmp 22) 74 rfl B 21 i0 (.int .i32 0) 1 4 Tryz.underlying74 hi hz0 hz1 hz2 rfl (by decide) _ _ _ rfl (hou.alloc _) ⟨w.heap.size, 0, none⟩ 1 1 [.int .i32 r] rfl rfl (news1s w _ _ _ _) (one1 rfl) (by decide) (by unfold maxLen; omega) (by omega) (by simp at hsz ⊢; omega) _ rfl ?_
               intro g cap w3 hown1 hgrow hat hlt1
               have HT := Lib.hid (H.out.cur hown1 hgrow)
               have d1 : w3.cell? ⟨M, 1, none⟩ = some (.slice A1 c.length k1) := by rw [Lib.cell_of_heap HT.out.1]; rfl
               have g1 : w3.frozen? ⟨M, 1, none⟩ = false := Lib.frozen_of_heap HT.out.1 1
               clear hown1 hgrow hat hlt1)
            | fail)
          go_wp2
          go_end0
          exact ⟨rfl, by rw [E.out]; exact ⟨_, _, HT.out.2⟩⟩
      · have E : Hid (rgTk _ r = _) := Lib.hid (E0.trans (tk_note h10 rfl))
        replace h10 := Lib.hid h10
        replace H := Lib.hid H
        clear E0 c1
        go_enter Tryz.func34, Tryz.ntmps34
        go_wp2_with fail
        refine (HK.out _).mono ?_
        rintro e w1 ⟨rfl, rfl⟩
        go_wp2
        go_end0
        exact ⟨rfl, by rw [E.out]; exact ⟨_, _, H.out⟩⟩
  · have H : LxH B w0 (w.setCell ⟨M, 4, none⟩ (.bool true)) M IT s pos o c (k : Int) b true v u := H
    have c3 : (w.setCell ⟨M, 4, none⟩ (.bool true)).cell? ⟨M, 3, none⟩ = some (.bool b) := by rw [Lib.cell_of_heap H.row]; rfl
    have f3 : (w.setCell ⟨M, 4, none⟩ (.bool true)).frozen? ⟨M, 3, none⟩ = false := Lib.frozen_of_heap H.row 3
    have c1 : (w.setCell ⟨M, 4, none⟩ (.bool true)).cell? ⟨M, 1, none⟩ = some u := by rw [Lib.cell_of_heap H.row]; rfl
    by_cases h10 : r = 10
    · have e10 : (r == 10) = true := by rw [h10]; rfl
      have E : Hid (rgTk _ r = rgNl _) := Lib.hid (E0.trans (tk_nl h10))
      have HL := Lib.hid (pLexLine_any k _ H (by omega) hn)
      replace h10 := Lib.hid h10
      clear H E0 c1
      go_enter Tryz.func34, Tryz.ntmps34
      go_wp2_with fail
      refine HL.out.mono ?_
      rintro e w2 ⟨rfl, v2, u2, h2⟩
      replace h2 := Lib.hid h2
      go_wp2
      go_end0
      exact ⟨rfl, by rw [E.out]; exact ⟨_, _, h2.out⟩⟩
    have e10 : (r == 10) = false := beq_false_of_ne h10
    cases b
    · by_cases h35 : r = 35
      · have e35 : (r == 35) = true := by rw [h35]; rfl
        have E : Hid (rgTk _ r = _) := Lib.hid (E0.trans (tk_hash h35 rfl))
        have HS := Lib.hid (H.set 3 (.bool true) (c' := c) (n' := (k : Int)) (b' := true) (od' := true) rfl H.ou)
        replace h10 := Lib.hid h10
        replace h35 := Lib.hid h35
        clear H E0 c1
        go_enter Tryz.func34, Tryz.ntmps34
        go_wp2
        go_end0
        exact ⟨rfl, by rw [E.out]; exact ⟨_, _, HS.out⟩⟩
      have e35 : (r == 35) = false := beq_false_of_ne h35
      by_cases hb : r = 32 ∨ r = 9
      · have E : Hid (rgTk _ r = _) := Lib.hid (E0.trans (tk_blank hb rfl))
        have HW := Lib.hid (pLexWord_any _ H (by omega))
        replace h10 := Lib.hid h10
        replace h35 := Lib.hid h35
        clear H E0 c1
        rcases hb with hb | hb
        · have e32 : (r == 32) = true := by rw [hb]; rfl
          replace hb := Lib.hid hb
          go_enter Tryz.func34, Tryz.ntmps34
          go_wp2_with fail
          refine HW.out.mono ?_
          rintro e w2 ⟨rfl, v2, u2, h2⟩
          replace h2 := Lib.hid h2
          go_wp2
          go_end0
          exact ⟨rfl, by rw [E.out]; exact ⟨_, _, h2.out⟩⟩
        · have e32 : (r == 32) = false := beq_false_of_ne (by omega)
          have e9 : (r == 9) = true := by rw [hb]; rfl
          replace hb := Lib.hid hb
          go_enter Tryz.func34, Tryz.ntmps34
          go_wp2_with fail
          refine HW.out.mono ?_
          rintro e w2 ⟨rfl, v2, u2, h2⟩
          replace h2 := Lib.hid h2
          go_wp2
          go_end0
          exact ⟨rfl, by rw [E.out]; exact ⟨_, _, h2.out⟩⟩
      · have E : Hid (rgTk _ r = _) := Lib.hid (E0.trans (tk_byte h10 h35 (by omega) (by omega) rfl))
        have e32 : (r == 32) = false := beq_false_of_ne (by omega)
        have e9 : (r == 9) = false := beq_false_of_ne (by omega)
        replace h10 := Lib.hid h10
        replace h35 := Lib.hid h35
        replace hb := Lib.hid hb
        have hou := H.ou
        have hsz := H.sz
        obtain ⟨A1, k1, g1, rfl, -⟩ := own_form hou
        replace H := Lib.hid H
        clear E0
        go_enter Tryz.func34, Tryz.ntmps34
        go_wp2_with (first
          | (at_builtin
             refine wpList_append_lies _ rfl (.tmp 20) (.tmp 22) 74 rfl B 21 i0 (.int .i32 0) 1 4 Tryz.underlying74 hi hz0 hz1 hz2 rfl (by decide) _ _ _ rfl (hou.alloc _) ⟨w.heap.size, 0, none⟩ 1 1 [.int .i32 r] rfl rfl (news1s w _ _ _ _) (one1 rfl) (by decide) (by unfold maxLen; omega) (by omega) (by simp at hsz ⊢; omega) _ rfl ?_
             intro g cap w3 hown1 hgrow hat hlt1
             have HT := Lib.hid (H.out.cur hown1 hgrow)
             have d1 : w3.cell? ⟨M, 1, none⟩ = some (.slice A1 c.length k1) := by rw [Lib.cell_of_heap HT.out.1]; rfl
             have g1 : w3.frozen? ⟨M, 1, none⟩ = false := Lib.frozen_of_heap HT.out.1 1
             clear hown1 hgrow hat hlt1)
          | fail)
        go_wp2
        go_end0
        exact ⟨rfl, by rw [E.out]; exact ⟨_, _, HT.out.2⟩⟩
    · have E : Hid (rgTk _ r = _) := Lib.hid (E0.trans (tk_note h10 rfl))
      replace h10 := Lib.hid h10
      replace H := Lib.hid H
      clear E0 c1
      go_enter Tryz.func34, Tryz.ntmps34
      go_wp2
      go_end0
      exact ⟨rfl, by rw [E.out]; exact ⟨_, _, H.out⟩⟩
end Go.Proofs.YteinjdmkmfeniaaGreatDoor
namespace Go.Proofs.YteinjdmkmfeniaaGreatDoor
set_option linter.unusedVariables false
set_option linter.unusedSimpArgs false
open Go.ChangeShapes Go.WideShapes Go.ChangeAt Go.RowKit
theorem lex_new (s : ByteArray) (w w1 : World) (hsz : w1.heap.size = w.heap.size + 1) (hb : Below w.heap.size w w1) (hr : w1.heap[w.heap.size]? = some (.cells #[.slice none 0 0, .slice none 0 0, .int .i64 1, .bool false, .bool false] 76 (0, 0))) :
    LxG w.heap.size w (w1.iter s 0) w.heap.size (w.heap.size + 1) s 0 rg0 := by
  refine ⟨.slice none 0 0, .slice none 0 0, ?_, ?_, World.ownsRow_nil _ _ _ _, World.ownsRow_nil _ _ _ _, Nat.le_refl _, by omega, hb.alloc (by omega) _, by simp [World.iter]; omega⟩
  · exact (heap_alloc_old w1 _ (by omega)).trans hr
  · rw [← hsz]; exact World.iter_heap w1 s 0
set_option maxHeartbeats 1600000 in
theorem pLex_any (L : List UInt8) (w : World) : Calls Tryz.prog 15 #[.string (bs L)] w (RetTok (lexT L) (lexE L) w) := by
  have hS := bs_size L
  by_cases hbig : 4096 < L.length
  · have E1 := Lib.hid (lex_big hbig).1
    have E2 := Lib.hid (lex_big hbig).2
    go_enter Tryz.func15, Tryz.ntmps15
    go_wp2
    go_ret2
    rw [E1.out, E2.out]
    exact ⟨_, rfl, World.ownsRow_nil _ _ _ _, Below.refl _ _⟩
  · go_enter Tryz.func15, Tryz.ntmps15
    go_wp2
    go_loopw [] (fun wr => ∃ (pos k : Nat) (R : Rg), pos ≤ L.length ∧ LxG w.heap.size w wr w.heap.size (w.heap.size + 1) (bs L) pos R ∧ LxZ R (lxF (L.take pos)) (badB (L.take pos)) ∧ R.out.length ≤ 2 * pos ∧ R.cur.length ≤ pos ∧ R.ln = (k : Int) ∧ k ≤ pos + 1) (fun wr => L.length - wr.iterPos (w.heap.size + 1))
    case atStart =>
      refine ⟨0, 1, rg0, by omega, ?_, by simpa [lxF, badB] using LxZ.start, by simp [rg0], by simp [rg0], rfl, by omega⟩
      refine lex_new _ _ _ ?_ ?_ ?_
      · simp
      · exact (Below.refl _ w).alloc (Nat.le_refl _) _
      · exact heap_alloc_new w _
    case round =>
      obtain ⟨pos, k, R, hpos, ⟨v, u, hG⟩, hZ, ho, hcu, hln, hk⟩ := hrel
      have hit := hG.it
      by_cases hp : pos < L.length
      · have hnx : ∀ ty, (Instr.next (.pointer (some ⟨w.heap.size + 1, 0, none⟩)) true ty).run Tryz.prog wr = _ := fun ty => Lib.run_next_any_at wr (w.heap.size + 1) (bs L) pos ty hit (by rw [hS]; exact hp)
        obtain ⟨hZ2, hd1, hd2⟩ := hZ.rune hp
        have hN : LxG w.heap.size w (wr.iterAt (w.heap.size + 1) (bs L) (pos + (Utf8.decode (bs L) pos).2)) w.heap.size (w.heap.size + 1) (bs L) (pos + (Utf8.decode (bs L) pos).2) R := ⟨v, u, hG.next _⟩
        generalize (Utf8.decode (bs L) pos).2 = d at *
        generalize hr : ((Utf8.decode (bs L) pos).1 : Int) = r at *
        have HT := Lib.hid (pTake_any r k _ hln hN (by omega) (by omega) (by omega))
        obtain ⟨t1, t2, t3, t4⟩ := tk_len R r
        replace hZ2 := Lib.hid hZ2
        replace hit := Lib.hid hit
        clear hG hN hZ
        go_wp2_with fail
        refine HT.out.mono ?_
        rintro e w2 ⟨rfl, h2⟩
        have hit2 : Hid (w2.heap[w.heap.size + 1]? = some (.stringIter (bs L) (pos + d))) := by
          obtain ⟨v2, u2, h3⟩ := h2
          exact Lib.hid h3.it
        replace h2 := Lib.hid h2
        clear HT
        go_wp2
        go_roundw
        case rel => exact ⟨pos + d, (rgTk R r).ln.toNat, rgTk R r, hd2, h2.out, hZ2.out, by omega, by omega, by omega, by omega⟩
        case measure =>
          simp only [World.iterPos, hit2.out, hit.out]
          omega
      · obtain rfl : pos = L.length := by omega
        have hnx : ∀ ty, (Instr.next (.pointer (some ⟨w.heap.size + 1, 0, none⟩)) true ty).run Tryz.prog wr = _ := fun ty => Lib.run_next_end_at wr (w.heap.size + 1) (bs L) L.length ty hit (by rw [hS]; exact hp)
        rw [List.take_length] at hZ
        obtain ⟨z1, z2, z3⟩ := hZ.fin
        rw [hln] at hG
        have HL := Lib.hid (pLexLine_any k wr hG (by omega) (by omega))
        have hoN : (rgNl R).out = enT (wdT R.out R.cur k) k := by rw [← hln]; rfl
        rw [hoN] at z1 z3
        generalize enT (wdT R.out R.cur k) k = T at *
        have z2' : R.odd = badB L := z2
        rw [z2'] at HL
        clear hG hZ z2 z2' hoN hit ho hcu
        go_wp2_with fail
        refine HL.out.mono ?_
        rintro e w2 ⟨rfl, v2, u2, h2⟩
        clear HL
        obtain ⟨A3, c3, g3, rfl, -⟩ := own_form h2.ov
        have q0 : w2.cell? ⟨w.heap.size, 0, none⟩ = some (.slice A3 T.length c3) := by rw [Lib.cell_of_heap h2.row]; rfl
        have q4 : w2.cell? ⟨w.heap.size, 4, none⟩ = some (.bool (badB L)) := by rw [Lib.cell_of_heap h2.row]; rfl
        have hown := Lib.hid h2.ov
        have hbel := Lib.hid h2.bel
        clear h2
        by_cases h1024 : 1024 < (tokL L).length
        · have E1 := Lib.hid (lex_many hbig h1024).1
          have E2 := Lib.hid (lex_many hbig h1024).2
          replace z3 := Lib.hid z3
          generalize tokL L = TK at *
          have z1' : 1024 < T.length := by omega
          replace z1 := Lib.hid z1
          clear h1024
          go_wp2
          go_ret2
          rw [E1.out, E2.out]
          exact ⟨_, rfl, World.ownsRow_nil _ _ _ _, hbel.out⟩
        · cases hbad : badB L
          · have E1 := Lib.hid (lex_ok hbig h1024 hbad).1
            have E2 := Lib.hid (lex_ok hbig h1024 hbad).2
            have z4 := Lib.hid (z3 hbad)
            rw [hbad] at q4
            clear z3
            generalize tokL L = TK at *
            have z1' : ¬ 1024 < T.length := by omega
            replace z1 := Lib.hid z1
            replace hbad := Lib.hid hbad
            clear h1024
            go_wp2
            go_ret2
            rw [E1.out, E2.out, ← z4.out]
            exact ⟨_, rfl, hown.out, hbel.out⟩
          · have E1 := Lib.hid (lex_bad hbig h1024 hbad).1
            have E2 := Lib.hid (lex_bad hbig h1024 hbad).2
            rw [hbad] at q4
            clear z3
            generalize tokL L = TK at *
            have z1' : ¬ 1024 < T.length := by omega
            replace z1 := Lib.hid z1
            replace hbad := Lib.hid hbad
            clear h1024
            go_wp2
            go_ret2
            rw [E1.out, E2.out]
            exact ⟨_, rfl, World.ownsRow_nil _ _ _ _, hbel.out⟩
def shP (T : List Tok) : Nat → List UInt8
  | 0 => []
  | k + 1 => shW T k ++ (T.getD k ([], 0)).1
theorem shW_P (T : List Tok) (k : Nat) : shW T (k + 1) = shP T (k + 1) ++ (if gapB T k = true then [32] else []) := by
  rw [shW_succ]
  unfold pieceT shP
  rw [List.append_assoc]
theorem showT_P (T : List Tok) : showT T = shP T T.length := by
  unfold showT
  cases h : T.length with
  | zero => rfl
  | succ k =>
    have hg : gapB T k = false := by
      unfold gapB
      rw [h, decide_eq_false (by omega)]
      simp
    rw [shW_P, if_neg (by rw [hg]; decide), List.append_nil]
theorem shP_at (T : List Tok) (k : Nat) (h : k < T.length) : shP T (k + 1) = shW T k ++ T[k].1 := by
  show shW T k ++ (T.getD k ([], 0)).1 = _
  rw [tokD_at T k h]
theorem shP_plain (T : List Tok) (q : Nat) (h : q + 1 < T.length) (hg : T[q].1 = [10] ∨ T[q + 1].1 = [10]) : shW T (q + 1) = shP T (q + 1) := by
  have e : gapB T q = false := by
    unfold gapB
    rw [tokD_at T q (by omega), tokD_at T (q + 1) h]
    rcases hg with hg | hg <;> simp [hg]
  rw [shW_P, if_neg (by rw [e]; decide), List.append_nil]
theorem shP_gap (T : List Tok) (q : Nat) (h : q + 1 < T.length) (h1 : T[q].1 ≠ [10]) (h2 : T[q + 1].1 ≠ [10]) : shW T (q + 1) = shP T (q + 1) ++ [32] := by
  have e : gapB T q = true := by
    unfold gapB
    rw [tokD_at T q (by omega), tokD_at T (q + 1) h]
    simp [h1, h2, h]
  rw [shW_P, if_pos e]
theorem strCells_bs (l : List UInt8) : Lib.strCells (bs l) = Lib.byteCells l := by rw [Lib.strCells_eq, bs_toList]
theorem bs_arr (l : List UInt8) : bs l = ⟨l.toArray⟩ := by unfold bs; rfl
set_option maxHeartbeats 1600000 in
theorem pShow_any (T : List Tok) (hs : zsT T ≤ 1000000000) (A : Option Addr) (c : Nat) (w : World) (hR : Rd w A (tokVs T)) : Calls Tryz.prog 14 #[.slice A T.length c] w fun e w' => e = .returned (.string (bs (showT T))) ∧ Below w.heap.size w w' := by
  have HR := Lib.hid hR
  have hlenT := szT_ge T
  clear hR
  go_enter Tryz.func14, Tryz.ntmps14
  go_wp2
  go_loopw [8] (fun i wr => ∃ k : Nat, k ≤ T.length ∧ i = .int .i64 (k : Int) ∧ Lib.IsBuilderF 67 5 w.heap.size w.heap.size (Lib.byteCells (shP T k)) wr ∧ Below w.heap.size w wr ∧ w.heap.size < wr.heap.size) (fun i _ => T.length - (intOf i).toNat)
  case atStart =>
    refine ⟨0, by omega, rfl, Lib.IsBuilderF.of (Lib.fresh_isBuilder _ _ w), (Below.refl _ w).alloc (Nat.le_refl _) _, by simp⟩
  case round =>
    obtain ⟨k, hk, rfl, hI, hbw, hsz⟩ := hrel
    by_cases hlt : k < T.length
    · obtain ⟨b, o, rfl, hb, hc⟩ := HR.out.tok hlt
      have hbr : b < wr.heap.size := by have := hbw.size; omega
      have hcq : ∀ j (hj : j < T.length), wr.cell? ⟨b, o + j * 2, none⟩ = some (.string (bs T[j].1)) ∧ wr.cell? ⟨b, o + j * 2 + 1, none⟩ = some (.int .i64 T[j].2) := fun j hj =>
        ⟨(World.cell?_of_block (a := ⟨b, o + j * 2, none⟩) (hbw.block b hb)).trans (hc j hj).1, (World.cell?_of_block (a := ⟨b, o + j * 2 + 1, none⟩) (hbw.block b hb)).trans (hc j hj).2⟩
      have hc0 := (hcq k hlt).1
      have hc1 := (hcq k hlt).2
      have hl := sh_bd T k hlt hs
      have hP := shP_at T k hlt
      clear hc
      replace hcq := Lib.hid hcq
      by_cases h0 : 0 < k
      · obtain ⟨q, hq⟩ : ∃ q, k = q + 1 := ⟨k - 1, by omega⟩
        have hcp := (hcq.out q (by omega)).1
        have hpl : Hid ((T[q]'(by omega)).1 = [10] ∨ T[k].1 = [10] → shW T k = shP T k) := Lib.hid (by subst hq; exact shP_plain T q hlt)
        have hgp : Hid ((T[q]'(by omega)).1 ≠ [10] → T[k].1 ≠ [10] → shW T k = shP T k ++ [32]) := Lib.hid (by subst hq; exact shP_gap T q hlt)
        have hcx : ∀ x, (wr.alloc x).cell? ⟨b, o + q * 2, none⟩ = some (.string (bs (T[q]'(by omega)).1)) := fun x => (World.cell?_of_block (a := ⟨b, o + q * 2, none⟩) (heap_alloc_old wr x hbr)).trans hcp
        have hx : IntKind.i64.wrap ((k : Int) - 1) = (q : Int) := (wrap_small _ (by omega) (by omega)).trans (by omega)
        have hq1 : (0 : Int) ≤ (q : Int) ∧ (q : Int) < (T.length : Int) := by omega
        have hd : decide ((0 : Int) < (k : Int)) = true := decide_eq_true (by omega)
        replace hP := Lib.hid hP
        generalize T[k].2 = m at *
        generalize T[k].1 = t at *
        generalize (T[q]'(by omega)).1 = tp at *
        have l1 := bs_list t
        have l2 := bs_list tp
        clear hcp
        replace hq := Lib.hid hq
        by_cases h10 : t = [10]
        · have e1 : (t == [10]) = true := by rw [h10]; rfl
          have E := Lib.hid (hpl.out (Or.inr h10))
          replace h10 := Lib.hid h10
          have HS := Lib.hid (bldStr_any w.heap.size w.heap.size _ (bs t) (wr.alloc (.cells #[.string (bs t), .int .i64 m] 59)) (hI.alloc _) (by rw [Lib.byteCells_length, bs_size, ← E.out]; omega) (by simp; omega))
          rw [strCells_bs, ← Lib.byteCells_append, ← E.out, ← hP.out] at HS
          have hbx := Lib.hid (hbw.alloc (o := .cells #[.string (bs t), .int .i64 m] 59) (by omega))
          clear hI hbw
          go_wp2_with fail
          refine HS.out.mono ?_
          rintro e w2 ⟨rfl, hI2, hb2, -⟩
          have hs2 := hb2.size
          have hbf := Lib.hid (hbx.out.trans hb2)
          replace hI2 := Lib.hid hI2
          clear hb2 HS
          go_wp2
          go_roundw
          case rel => exact ⟨k + 1, by omega, by go_num, hI2.out, hbf.out, by simp at hs2; omega⟩
          case measure => simp [intOf]; omega
        · have e1 : (t == [10]) = false := by rw [beq_eq_false_iff_ne]; exact h10
          by_cases h11 : tp = [10]
          · have e2 : (tp == [10]) = true := by rw [h11]; rfl
            have E := Lib.hid (hpl.out (Or.inl h11))
            replace h10 := Lib.hid h10
            replace h11 := Lib.hid h11
            have HS := Lib.hid (bldStr_any w.heap.size w.heap.size _ (bs t) (wr.alloc (.cells #[.string (bs t), .int .i64 m] 59)) (hI.alloc _) (by rw [Lib.byteCells_length, bs_size, ← E.out]; omega) (by simp; omega))
            rw [strCells_bs, ← Lib.byteCells_append, ← E.out, ← hP.out] at HS
            have hbx := Lib.hid (hbw.alloc (o := .cells #[.string (bs t), .int .i64 m] 59) (by omega))
            clear hI hbw
            go_wp2_with fail
            refine HS.out.mono ?_
            rintro e w2 ⟨rfl, hI2, hb2, -⟩
            have hs2 := hb2.size
            have hbf := Lib.hid (hbx.out.trans hb2)
            replace hI2 := Lib.hid hI2
            clear hb2 HS
            go_wp2
            go_roundw
            case rel => exact ⟨k + 1, by omega, by go_num, hI2.out, hbf.out, by simp at hs2; omega⟩
            case measure => simp [intOf]; omega
          · have e2 : (tp == [10]) = false := by rw [beq_eq_false_iff_ne]; exact h11
            have E := Lib.hid (hgp.out h11 h10)
            replace h10 := Lib.hid h10
            replace h11 := Lib.hid h11
            have hlE : (shP T k).length + 1 = (shW T k).length := by rw [E.out]; simp
            have HB := Lib.hid (bldByte_any w.heap.size w.heap.size _ 32 (wr.alloc (.cells #[.string (bs t), .int .i64 m] 59)) (hI.alloc _) (by rw [Lib.byteCells_length]; omega) (by simp; omega))
            have e32 : Lib.byteCells (shP T k) ++ [Value.int .u8 32] = Lib.byteCells (shW T k) := by rw [E.out, Lib.byteCells_append]; rfl
            rw [e32] at HB
            have hbx := Lib.hid (hbw.alloc (o := .cells #[.string (bs t), .int .i64 m] 59) (by omega))
            clear hI hbw
            go_wp2_with fail
            refine HB.out.mono ?_
            rintro e w2 ⟨rfl, hI2, hb2, hk2⟩
            have hs2 := hb2.size
            have hrow : w2.heap[wr.heap.size]? = some (.cells #[.string (bs t), .int .i64 m] 59 (0, 0)) := hk2 _ _ (heap_alloc_new wr _) (fun e1 => by have := Option.some.inj e1; omega) (fun c fz e1 => by injection e1 with _ e2; exact absurd e2 (by decide))
            have hcz : w2.cell? ⟨wr.heap.size, 0, none⟩ = some (.string (bs t)) := by rw [Lib.cell_of_heap hrow]; rfl
            have hs3 : wr.heap.size + 1 ≤ w2.heap.size := by simp at hs2; omega
            have HS := Lib.hid (bldStr_any w.heap.size w.heap.size _ (bs t) w2 hI2 (by rw [Lib.byteCells_length, bs_size]; omega) (by omega))
            rw [strCells_bs, ← Lib.byteCells_append, ← hP.out] at HS
            have hbf := Lib.hid (hbx.out.trans hb2)
            clear hI2 hb2 hk2 hrow HB hs2
            go_wp2_with fail
            refine HS.out.mono ?_
            rintro e w3 ⟨rfl, hI3, hb3, -⟩
            have hs4 := hb3.size
            have hbg := Lib.hid (hbf.out.trans hb3)
            replace hI3 := Lib.hid hI3
            clear hb3 HS
            go_wp2
            go_roundw
            case rel => exact ⟨k + 1, by omega, by go_num, hI3.out, hbg.out, by omega⟩
            case measure => simp [intOf]; omega
      · have E : Hid (shW T k = shP T k) := Lib.hid (by rw [show k = 0 by omega]; rfl)
        have hd : decide ((0 : Int) < (k : Int)) = false := decide_eq_false (by omega)
        replace hP := Lib.hid hP
        generalize T[k].2 = m at *
        generalize T[k].1 = t at *
        have l1 := bs_list t
        have HS := Lib.hid (bldStr_any w.heap.size w.heap.size _ (bs t) (wr.alloc (.cells #[.string (bs t), .int .i64 m] 59)) (hI.alloc _) (by rw [Lib.byteCells_length, bs_size, ← E.out]; omega) (by simp; omega))
        rw [strCells_bs, ← Lib.byteCells_append, ← E.out, ← hP.out] at HS
        have hbx := Lib.hid (hbw.alloc (o := .cells #[.string (bs t), .int .i64 m] 59) (by omega))
        clear hI hbw
        go_wp2_with fail
        refine HS.out.mono ?_
        rintro e w2 ⟨rfl, hI2, hb2, -⟩
        have hs2 := hb2.size
        have hbf := Lib.hid (hbx.out.trans hb2)
        replace hI2 := Lib.hid hI2
        clear hb2 HS
        go_wp2
        go_roundw
        case rel => exact ⟨k + 1, by omega, by go_num, hI2.out, hbf.out, by simp at hs2; omega⟩
        case measure => simp [intOf]; omega
    · obtain rfl : k = T.length := by omega
      have HS := Lib.hid (Tryz.Builder_String_any_k w.heap.size w.heap.size _ wr hI (by omega))
      have E : Hid (⟨(shP T T.length).toArray⟩ = bs (showT T)) := Lib.hid (by rw [bs_arr, showT_P])
      rw [E.out] at HS
      replace hbw := Lib.hid hbw
      clear hI
      go_wp2_with fail
      refine HS.out.mono ?_
      rintro e w2 ⟨rfl, -, hb2, -⟩
      have hbf := Lib.hid (hbw.out.trans hb2)
      clear hb2 HS
      go_wp2
      go_ret
      exact ⟨rfl, hbf.out⟩
end Go.Proofs.YteinjdmkmfeniaaGreatDoor
