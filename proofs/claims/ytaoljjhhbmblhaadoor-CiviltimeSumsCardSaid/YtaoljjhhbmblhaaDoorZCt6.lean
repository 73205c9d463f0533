/- Several texts in one: CtO. -/
import Derived.Test.YtaoljjhhbmblhaaDoorRows
import Derived.WalkKit
import Derived.Lib.SmallJoins
import Derived.Deep.Fields
import Derived.Deep.Strs
namespace Go.Proofs.YtaoljjhhbmblhaaDoor
open Go Go.ChangeShapes Go.WideShapes Go.ChangeAt Go.RowKit Go.Joins Go.Deep
set_option linter.unusedVariables false
theorem array7 {α : Type} {cs : Array α} (h : cs.size = 7) : ∃ c0 c1 c2 c3 c4 c5 c6, cs = #[c0, c1, c2, c3, c4, c5, c6] := by
  obtain ⟨l⟩ := cs
  match l, h with
  | [c0, c1, c2, c3, c4, c5, c6], _ => exact ⟨c0, c1, c2, c3, c4, c5, c6, rfl⟩
theorem open_civ {H : Type} {enc : TypeId × Value → H} {P : Program} {w : World} {base : Nat} {spare : Nat → Bool} {held : Bool} {r : Reach} {b0 : Nat} {t tD tK : TypeId} {f0 f1 g0 g1 g2 e0 e1 e2 e3 : Field} {v : Value} {d : DataW H} {p : List MemPlace}
    (hs : P.underlying t = some (.struct #[f0, f1])) (hC : P.cellsOf t = 7) (o0 : f0.offset = 0) (o1 : f1.offset = 3) (hD : f0.type = tD) (hK : f1.type = tK) (k0 : P.cellsOf tD = 3) (k1 : P.cellsOf tK = 4)
    (hd : P.underlying tD = some (.struct #[g0, g1, g2])) (hoD : oneCellFields P #[g0, g1, g2] = true) (hk : P.underlying tK = some (.struct #[e0, e1, e2, e3])) (hoK : oneCellFields P #[e0, e1, e2, e3] = true)
    (hv : Value.okWide P w r b0 t v) (h : DataW.Trod enc P w base spare held t v d p) :
    ∃ (v0 v1 v2 v3 v4 v5 v6 : Value) (y0 y1 y2 y3 y4 y5 y6 : DataW H × List MemPlace) (n m : Nat), v = .agg #[v0, v1, v2, v3, v4, v5, v6] ∧
      DataW.trod enc P w base spare held n g0.type [v0] = some y0 ∧ DataW.trod enc P w base spare held n g1.type [v1] = some y1 ∧ DataW.trod enc P w base spare held n g2.type [v2] = some y2 ∧
      DataW.trod enc P w base spare held m e0.type [v3] = some y3 ∧ DataW.trod enc P w base spare held m e1.type [v4] = some y4 ∧ DataW.trod enc P w base spare held m e2.type [v5] = some y5 ∧ DataW.trod enc P w base spare held m e3.type [v6] = some y6 := by
  obtain ⟨cs, rfl, hsz⟩ := okWide_struct hs hv
  obtain ⟨c0, c1, c2, c3, c4, c5, c6, rfl⟩ := array7 (hsz.trans hC)
  obtain ⟨fuel, hf⟩ := h
  obtain ⟨yA, yB, n, hx, _, hA, hB⟩ := trod_struct2 hs hf
  rw [hD, o0, k0] at hA
  rw [hK, o1, k1] at hB
  have hA2 : DataW.trod enc P w base spare held n tD [c0, c1, c2] = some yA := by simpa [Value.cells] using hA
  have hB2 : DataW.trod enc P w base spare held n tK [c3, c4, c5, c6] = some yB := by simpa [Value.cells] using hB
  obtain ⟨y0, y1, y2, q, hxA, _, h0, h1, h2⟩ := trod_struct3 hd hA2
  obtain ⟨y3, y4, y5, y6, q', hxB, _, h3, h4, h5, h6⟩ := trod_struct4 hk hB2
  obtain ⟨a0, b0'⟩ := hone_of hoD 0 g0 rfl
  obtain ⟨a1, b1⟩ := hone_of hoD 1 g1 rfl
  obtain ⟨a2, b2⟩ := hone_of hoD 2 g2 rfl
  obtain ⟨a3, b3⟩ := hone_of hoK 0 e0 rfl
  obtain ⟨a4, b4⟩ := hone_of hoK 1 e1 rfl
  obtain ⟨a5, b5⟩ := hone_of hoK 2 e2 rfl
  obtain ⟨a6, b6⟩ := hone_of hoK 3 e3 rfl
  exact ⟨c0, c1, c2, c3, c4, c5, c6, y0, y1, y2, y3, y4, y5, y6, q, q', rfl, by simpa [a0, b0'] using h0, by simpa [a1, b1] using h1, by simpa [a2, b2] using h2, by simpa [a3, b3] using h3, by simpa [a4, b4] using h4, by simpa [a5, b5] using h5, by simpa [a6, b6] using h6⟩
end Go.Proofs.YtaoljjhhbmblhaaDoor
