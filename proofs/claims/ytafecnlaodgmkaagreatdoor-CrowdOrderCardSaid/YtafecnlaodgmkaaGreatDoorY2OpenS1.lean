/- Several texts in one: OpenS. -/
import Derived.Test.YtafecnlaodgmkaaGreatDoorY2Lex1
import Derived.Test.YtafecnlaodgmkaaGreatDoorRows
import Derived.Deep.Slices
import Derived.Deep.Fields
import Derived.Deep.Strs
import Derived.WalkKit
namespace Go.Proofs.YtafecnlaodgmkaaGreatDoor
open Go Go.ChangeShapes Go.WideShapes Go.ChangeAt Go.RowKit Go.Deep
set_option linter.unusedVariables false
theorem blk_sum {H : Type} (D : Nat → DataW H) (f : Nat → Nat) (n : Nat) (h : ∀ i, i < n → f i ≤ Rows.uptoBulk (D i)) : ((List.range n).map f).sum ≤ Rows.uptoBulkAll ((List.range n).map D) := by
  have key : ∀ l : List Nat, (∀ i, i ∈ l → f i ≤ Rows.uptoBulk (D i)) → (l.map f).sum ≤ Rows.uptoBulkAll (l.map D) := by
    intro l
    induction l with
    | nil => intro _; simp [Rows.uptoBulkAll]
    | cons x r ih =>
      intro hl
      have h1 := hl x (by simp)
      have h2 := ih (fun i hi => hl i (by simp [hi]))
      simp only [List.map_cons, List.sum_cons, Rows.uptoBulkAll]
      omega
  exact key _ (fun i hi => h i (List.mem_range.1 hi))
theorem flat_at {α : Type} (enc2 : α → List Value) (size : Nat) : ∀ (T : List α) (j : Nat) (u : Value), (∀ x, x ∈ T → (enc2 x).length = size) → (T.flatMap enc2)[j]? = some u →
    ∃ (i k : Nat) (hi : i < T.length), k < size ∧ j = i * size + k ∧ (enc2 T[i])[k]? = some u := by
  intro T
  induction T with
  | nil => intro j u _ h; simp at h
  | cons x T ih =>
    intro j u hl h
    have hx := hl x (by simp)
    rw [List.flatMap_cons] at h
    by_cases hj : j < size
    · rw [List.getElem?_append_left (by omega)] at h
      exact ⟨0, j, by simp, hj, by simp, h⟩
    · rw [List.getElem?_append_right (by omega), hx] at h
      obtain ⟨i, k, hi, hk, e, hu⟩ := ih (j - size) u (fun y hy => hl y (by simp [hy])) h
      exact ⟨i + 1, k, by simp; omega, hk, by rw [Nat.succ_mul]; omega, by simpa using hu⟩
theorem open_rows {H : Type} {enc : TypeId × Value → H} {P : Program} {w : World} {base : Nat} {spare : Nat → Bool} {held : Bool} {α : Type} (enc2 : α → List Value) (wt : α → Nat) {t e : TypeId} {fuel : Nat} {cs : List Value} {x : DataW H × List MemPlace}
    (ht : P.underlying t = some (.slice e))
    (hdec : ∀ n cs d ps, DataW.trod enc P w base spare held n e cs = some (d, ps) → cs.length = P.cellsOf e → ∃ y : α, cs = enc2 y ∧ wt y ≤ Rows.uptoBulk d)
    (h : DataW.trod enc P w base spare held fuel t cs = some x) :
    ∃ (T : List α) (A : Option Addr) (c : Nat), cs = [.slice A T.length c] ∧ Rd w A (T.flatMap enc2) ∧ (T.map wt).sum + 1 ≤ Rows.uptoBulk x.1 ∧ T.length ≤ maxLen := by
  rcases open_slice ht h with ⟨rfl, rfl⟩ | ⟨a, len, cap, m, n, D, Pl, rfl, hb, hl, hm, hmm, rfl, hx⟩
  · exact ⟨[], none, 0, rfl, fun j u hu => by simp at hu, by simp [Rows.uptoBulk], by simp⟩
  · have hlm : len ≤ m := by rw [hmm]; split <;> omega
    have hex : ∀ i, i < len → ∃ y : α, w.cells? base (a.add (i * P.cellsOf e)) (P.cellsOf e) = some (enc2 y) ∧ wt y ≤ Rows.uptoBulk (D i) := by
      intro i hi
      obtain ⟨cs', h1, h2⟩ := hx i (by omega)
      obtain ⟨_, hlen, _⟩ := World.cells?_some h1
      obtain ⟨y, rfl, hw⟩ := hdec _ _ _ _ h2 hlen
      exact ⟨y, h1, hw⟩
    obtain ⟨F, hF⟩ : ∃ F : Fin len → α, ∀ i : Fin len, w.cells? base (a.add (i.val * P.cellsOf e)) (P.cellsOf e) = some (enc2 (F i)) ∧ wt (F i) ≤ Rows.uptoBulk (D i.val) :=
      Classical.axiomOfChoice (fun i : Fin len => hex i.val i.isLt)
    refine ⟨List.ofFn F, some a, cap, by simp, ?_, ?_, by simp; omega⟩
    · intro j u hu
      obtain ⟨i, k, hi, hk, rfl, hu2⟩ := flat_at enc2 (P.cellsOf e) (List.ofFn F) j u (fun y hy => by
        obtain ⟨i, rfl⟩ := (List.mem_ofFn).1 hy
        exact (World.cells?_some (hF i).1).2.1) hu
      have hi' : i < len := by simpa using hi
      obtain ⟨_, _, hc⟩ := World.cells?_some (hF ⟨i, hi'⟩).1
      have h3 := hc k hk
      rw [List.getElem_ofFn] at hu2
      rw [hu2, add_add] at h3
      obtain ⟨ab, ao, sp⟩ := a
      have hs : sp = none := by
        obtain ⟨_, l0, hc0⟩ := World.cells?_some (hF ⟨0, by omega⟩).1
        have h4 := hc0 0 (by omega)
        rw [add_add, List.getElem?_eq_getElem (by omega)] at h4
        unfold World.cell? at h4
        split at h4
        · cases sp with
          | none => rfl
          | some z => simp [Addr.add] at h4
        · simp at h4
      subst hs
      have hadd : ∀ n, Addr.add ⟨ab, ao, none⟩ n = ⟨ab, ao + n, none⟩ := by intro n; unfold Addr.add; split <;> simp_all
      rw [hadd] at h3
      refine ⟨ab, ao, rfl, ?_, h3⟩
      exact World.block_lt_of_cell? w _ h3
    · simp only [Rows.uptoBulk]
      have hs := blk_sum D (fun i => if hi : i < len then wt (F ⟨i, hi⟩) else 0) len (fun i hi => by simp only [dif_pos hi]; exact (hF ⟨i, hi⟩).2)
      have he : ((List.range len).map (fun i => if hi : i < len then wt (F ⟨i, hi⟩) else 0)) = (List.ofFn F).map wt := by
        apply List.ext_getElem
        · simp
        · intro i h1 h2
          have : i < len := by simpa using h1
          simp [this]
      rw [he] at hs
      omega
end Go.Proofs.YtafecnlaodgmkaaGreatDoor
