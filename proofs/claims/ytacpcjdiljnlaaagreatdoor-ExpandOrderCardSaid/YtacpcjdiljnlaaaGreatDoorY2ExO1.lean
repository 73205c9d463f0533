/- Several texts in one: ExO. -/
import Derived.Test.YtacpcjdiljnlaaaGreatDoorY2Pkg1
import Derived.Test.YtacpcjdiljnlaaaGreatDoorY2Ref1
import Derived.Test.YtacpcjdiljnlaaaGreatDoorY2ExT1
import Derived.RegionTactic
import Derived.Deep.AppendLies
namespace Go.Proofs.YtacpcjdiljnlaaaGreatDoor
set_option linter.unusedVariables false
set_option linter.unusedSimpArgs false
open Go.ChangeShapes Go.WideShapes Go.ChangeAt Go.RowKit
abbrev atL (x o : Int) (d : Bool) (b : List UInt8) : Lin := ⟨1, x, 0, 0, 0, 0, 0, 0, 0, 0, o, d, b⟩
theorem more_ok {z : Src} (hc : ckU z = 0) (hl : z.lns.length < 16) {x o : Int} {d : Bool} {b : List UInt8} (hx : -377705116800 ≤ x) (hx2 : x ≤ 253402300799) (ht : triE o b = 0) : OkS { z with lns := z.lns ++ [atL x o d b] } := by
  obtain ⟨a1, a2, a3, a4, a5, a6⟩ := (ckU_zero z).1 hc
  refine ⟨by simp; omega, ?_, a3, a4, a5, ?_⟩
  · show tailN (z.lns ++ [_]) ≤ 4
    rw [tailN_app, tailN_one]
    show _ + (if (0 : Int) = 1048576 then 1 else 0) ≤ 4
    rw [if_neg (by decide)]; exact a2
  · intro l hl
    rcases List.mem_append.1 hl with h | h
    · exact a6 l h
    · obtain rfl := List.mem_singleton.1 h
      exact ⟨Or.inl ⟨rfl, rfl, rfl, rfl, rfl, rfl, rfl, rfl, rfl, hx, hx2⟩, (triE_zero o b).1 ht⟩
theorem order_ev {YF : Int → Int} (hYF : ∀ S, YIs S (YF S)) {z : Src} {y : Int} (he : evE z y y = 0) {L : List Chg} (h : EvP YF z y y L) :
    (∀ j (hj : j + 1 < L.length), (L[j]'(by omega)).1 < L[j + 1].1) ∧ (0 < L.length → 0 < z.lns.length) ∧
    ∀ (h0 : 0 < L.length) (o : Int) (d : Bool) (b : List UInt8), z.lns.length < 16 → triE o b = 0 → evE { z with lns := z.lns ++ [atL L[0].1 o d b] } y y = 0 ∧ SB { z with lns := z.lns ++ [atL L[0].1 o d b] } ∧
      ∀ M, EvP YF { z with lns := z.lns ++ [atL L[0].1 o d b] } y y M → M.length = L.length ∧ ∃ h1 : 0 < M.length, M[0] = (L[0].1, o, d, b) := by
  obtain ⟨hc, y1, _, y2⟩ := evE_zero he
  unfold EvP at h
  rw [if_pos he] at h
  have m1 := staI_min y1
  have m2 := endI_max y2
  refine ⟨fun j hj => h.lt (by omega) hj, fun h0 => ?_, fun h0 o d b hl ht => ?_⟩
  · obtain ⟨_, _, i, l, hi, _⟩ := h.each L[0] (List.getElem_mem h0)
    have := (List.getElem?_eq_some_iff.1 hi).1
    omega
  · obtain ⟨a1, a2, _⟩ := h.each L[0] (List.getElem_mem h0)
    have ok := more_ok (x := L[0].1) (d := d) hc hl (by omega) (by omega) ht
    have e : evE { z with lns := z.lns ++ [atL L[0].1 o d b] } y y = 0 := by
      unfold evE
      rw [if_neg (fun k => k ((ckU_zero _).2 ok)), if_neg (by omega), if_neg (by omega)]
    refine ⟨e, SB.of ok, fun M hM => ?_⟩
    unfold EvP at hM
    rw [if_pos e] at hM
    obtain ⟨q1, q2, q3, q4⟩ := ev_more hYF h hM h0 m1 m2 rfl rfl
    exact ⟨q1, q2, Prod.ext q3 q4⟩
theorem RetChg.mono {P Q : List Chg → Prop} {E : Int} {w : World} {r : Ending} {w' : World} (h : RetChg P E w r w') (hi : ∀ L, P L → Q L) : RetChg Q E w r w' := by
  obtain ⟨L, A, c, h1, h2, h3, h4⟩ := h
  exact ⟨L, A, c, h1, h2, hi L h3, h4⟩
theorem linVs_len (T : List Lin) : (linVs T).length = T.length * 13 := by
  induction T with
  | nil => rfl
  | cons l T ih => show (linV l ++ linVs T).length = _; rw [List.length_append, ih, List.length_cons]; show 13 + _ = _; omega
theorem linV_one (l : Lin) : ∀ u ∈ linV l, u.oneCell' = true := by intro u hu; unfold linV strV at hu; simp at hu; rcases hu with h | h | h | h | h | h | h | h | h | h | h | h | h <;> (subst h; rfl)
theorem linVs_one (T : List Lin) : ∀ u ∈ linVs T, u.oneCell' = true := by
  intro u hu
  unfold linVs at hu
  obtain ⟨l, _, h⟩ := List.mem_flatMap.1 hu
  exact linV_one l u h
theorem rd_news {V u : World} {b o : Nat} {xs : List Value} (h : Rd V (some ⟨b, o, none⟩) xs) (hb : Below V.heap.size V u) : ∀ j x, xs[j]? = some x → u.cell? ((⟨b, o, none⟩ : Addr).add j) = some x := fun j x hx => by
  have e : (⟨b, o, none⟩ : Addr).add j = ⟨b, o + j, none⟩ := by unfold Addr.add; split <;> simp_all
  rw [e]
  exact (h.below hb (Nat.le_refl _)).at_ rfl hx
theorem order_done {w V u : World} {S g cap n : Nat} {xs : List Value} {e : TypeId} {size : Nat} {c0 c1 c2 c3 c4 : Value} {t : TypeId} (hwV : Below w.heap.size w V) (hSw : w.heap.size ≤ S) (hS : V.heap[S]? = some (.cells #[c0, c1, c2, c3, c4] t (0, 0))) (hB : Below V.heap.size V u)
    (hown : u.ownsRow V.heap.size e size (.slice (some ⟨g, 0, none⟩) n cap) n xs) (h0 : 0 < n) (a : Value) :
    Below w.heap.size w (u.setCell ⟨S, 4, none⟩ a) ∧ (u.setCell ⟨S, 4, none⟩ a).heap[S]? = some (.cells #[c0, c1, c2, c3, a] t (0, 0)) ∧ Rd (u.setCell ⟨S, 4, none⟩ a) (some ⟨g, 0, none⟩) xs ∧
    (∀ k o, k ≠ S → V.heap[k]? = some o → (u.setCell ⟨S, 4, none⟩ a).heap[k]? = some o) ∧ V.heap.size ≤ (u.setCell ⟨S, 4, none⟩ a).heap.size := by
  have hSV : S < V.heap.size := lt_of_heap hS
  have hSu : u.heap[S]? = some (.cells #[c0, c1, c2, c3, c4] t (0, 0)) := (hB.block S hSV).trans hS
  have hsz : (u.setCell ⟨S, 4, none⟩ a).heap.size = u.heap.size := by simp [World.setCell]
  refine ⟨(hwV.trans (hB.mono hwV.size)).setCell (by exact hSw) a, ?_, ?_, fun k o hk ho => ?_, by rw [hsz]; exact hB.size⟩
  · have := row_set1 hSu 4 a
    simpa using this
  · have hr := Rd.own hown
    intro j x hx
    obtain ⟨b2, o2, e1, h1, h2⟩ := hr j x hx
    have hg : V.heap.size ≤ b2 := by
      obtain ⟨g2, cap2, e2, h3, _⟩ := hown.form h0
      simp at e1 e2
      omega
    refine ⟨b2, o2, e1, by rw [hsz]; exact h1, ?_⟩
    rw [← h2]
    exact World.cell?_of_block (w := u) (Below.heap_setCell _ _ _ _ (by show b2 ≠ S; omega))
  · exact row_other1 hk ((hB.block k (lt_of_heap ho)).trans ho) 4 a
end Go.Proofs.YtacpcjdiljnlaaaGreatDoor
