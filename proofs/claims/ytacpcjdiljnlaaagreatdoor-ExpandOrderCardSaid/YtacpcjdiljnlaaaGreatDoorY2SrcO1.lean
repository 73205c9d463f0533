/- Several texts in one: SrcO. -/
import Derived.Test.YtacpcjdiljnlaaaGreatDoorY2Rul1
import Derived.Test.YtacpcjdiljnlaaaGreatDoorY2OpenS1
import Derived.Lib.SmallJoins
namespace Go.Proofs.YtacpcjdiljnlaaaGreatDoor
open Go Go.ChangeShapes Go.WideShapes Go.ChangeAt Go.RowKit Go.Deep Go.Joins
set_option linter.unusedVariables false
theorem array5 {α : Type} {cs : Array α} (h : cs.size = 5) : ∃ c0 c1 c2 c3 c4, cs = #[c0, c1, c2, c3, c4] := by
  obtain ⟨l⟩ := cs
  match l, h with
  | [c0, c1, c2, c3, c4], _ => exact ⟨c0, c1, c2, c3, c4, rfl⟩
theorem tri_dec {H : Type} {enc : TypeId × Value → H} {w : World} {base : Nat} {spare : Nat → Bool} {held : Bool} {n : Nat} {a b c : Value} {x : DataW H × List MemPlace}
    (h : DataW.trod enc Tryz.prog w base spare held n 23 [a, b, c] = some x) : ∃ (o : Int) (d : Bool) (s : ByteArray), a = .int .i64 o ∧ b = .bool d ∧ c = .string s ∧ s.size ≤ maxLen := by
  have c1 : Tryz.prog.cellsOf 9 = 1 := by kernel_rfl
  have c2 : Tryz.prog.cellsOf 3 = 1 := by kernel_rfl
  have c3 : Tryz.prog.cellsOf 4 = 1 := by kernel_rfl
  obtain ⟨y0, y1, y2, m, _, _, h0, h1, h2⟩ := trod_struct3 Tryz.underlying23 h
  have g0 : DataW.trod enc Tryz.prog w base spare held m 3 [a] = some y0 := by simpa [c2] using h0
  have g1 : DataW.trod enc Tryz.prog w base spare held m 4 [b] = some y1 := by simpa [c3] using h1
  have g2 : DataW.trod enc Tryz.prog w base spare held m 9 [c] = some y2 := by simpa [c1] using h2
  obtain ⟨z, e0, _⟩ := DataW.trod_int Tryz.underlying3 g0
  obtain ⟨d, e1, _⟩ := DataW.trod_bool Tryz.underlying4 g1
  obtain ⟨s, e2, _, hs⟩ := DataW.trod_string Tryz.underlying9 g2
  simp at e0 e1 e2
  exact ⟨z, d, s, e0, e1, e2, hs⟩
theorem day_dec {H : Type} {enc : TypeId × Value → H} {w : World} {base : Nat} {spare : Nat → Bool} {held : Bool} {n : Nat} {a b c : Value} {x : DataW H × List MemPlace}
    (h : DataW.trod enc Tryz.prog w base spare held n 47 [a, b, c] = some x) : ∃ (o d s : Int), a = .int .i64 o ∧ b = .int .i64 d ∧ c = .int .i64 s ∧ -9223372036854775808 ≤ d ∧ d ≤ 9223372036854775807 := by
  have c2 : Tryz.prog.cellsOf 3 = 1 := by kernel_rfl
  obtain ⟨y0, y1, y2, m, _, _, h0, h1, h2⟩ := trod_struct3 Tryz.underlying47 h
  have g0 : DataW.trod enc Tryz.prog w base spare held m 3 [a] = some y0 := by simpa [c2] using h0
  have g1 : DataW.trod enc Tryz.prog w base spare held m 3 [b] = some y1 := by simpa [c2] using h1
  have g2 : DataW.trod enc Tryz.prog w base spare held m 3 [c] = some y2 := by simpa [c2] using h2
  obtain ⟨z, e0, _⟩ := DataW.trod_int Tryz.underlying3 g0
  obtain ⟨d, e1, _, hwf⟩ := DataW.trod_int Tryz.underlying3 g1
  obtain ⟨s, e2, _⟩ := DataW.trod_int Tryz.underlying3 g2
  simp at e0 e1 e2
  have hb : -9223372036854775808 ≤ d ∧ d ≤ 9223372036854775807 := by
    have h2 : (decide (IntKind.i64.min ≤ d) && decide (d ≤ IntKind.i64.max)) = true := hwf
    rw [Bool.and_eq_true, decide_eq_true_eq, decide_eq_true_eq, show IntKind.i64.min = -9223372036854775808 from rfl, show IntKind.i64.max = 9223372036854775807 from rfl] at h2
    exact h2
  exact ⟨z, d, s, e0, e1, e2, hb.1, hb.2⟩
set_option maxHeartbeats 800000 in
theorem lin_dec {H : Type} {enc : TypeId × Value → H} {w : World} {base : Nat} {spare : Nat → Bool} {held : Bool} {n : Nat} {cs : List Value} {d : DataW H} {ps : List MemPlace}
    (h : DataW.trod enc Tryz.prog w base spare held n 49 cs = some (d, ps)) (hl : cs.length = Tryz.prog.cellsOf 49) : ∃ y : Lin, cs = linV y ∧ y.abb.length ≤ maxLen ∧ -9223372036854775808 ≤ y.dn ∧ y.dn ≤ 9223372036854775807 := by
  have c2 : Tryz.prog.cellsOf 3 = 1 := by kernel_rfl
  have c3 : Tryz.prog.cellsOf 49 = 13 := by kernel_rfl
  have c4 : Tryz.prog.cellsOf 47 = 3 := by kernel_rfl
  have c5 : Tryz.prog.cellsOf 23 = 3 := by kernel_rfl
  rw [c3] at hl
  match cs, hl with
  | [a0, a1, a2, a3, a4, a5, a6, a7, a8, a9, a10, a11, a12], _ =>
    obtain ⟨xs, m, _, _, _, hlen, hf⟩ := DataW.trod_struct Tryz.underlying49 h
    match xs, hlen with
    | [x0, x1, x2, x3, x4, x5, x6, x7, x8], _ =>
      have g0 : DataW.trod enc Tryz.prog w base spare held m 3 [a0] = some x0 := by simpa [c2] using hf 0 _ rfl
      have g1 : DataW.trod enc Tryz.prog w base spare held m 3 [a1] = some x1 := by simpa [c2] using hf 1 _ rfl
      have g2 : DataW.trod enc Tryz.prog w base spare held m 3 [a2] = some x2 := by simpa [c2] using hf 2 _ rfl
      have g3 : DataW.trod enc Tryz.prog w base spare held m 3 [a3] = some x3 := by simpa [c2] using hf 3 _ rfl
      have g4 : DataW.trod enc Tryz.prog w base spare held m 3 [a4] = some x4 := by simpa [c2] using hf 4 _ rfl
      have g5 : DataW.trod enc Tryz.prog w base spare held m 47 [a5, a6, a7] = some x5 := by simpa [c4] using hf 5 _ rfl
      have g6 : DataW.trod enc Tryz.prog w base spare held m 3 [a8] = some x6 := by simpa [c2] using hf 6 _ rfl
      have g7 : DataW.trod enc Tryz.prog w base spare held m 3 [a9] = some x7 := by simpa [c2] using hf 7 _ rfl
      have g8 : DataW.trod enc Tryz.prog w base spare held m 23 [a10, a11, a12] = some x8 := by simpa [c5] using hf 8 _ rfl
      obtain ⟨z0, e0, _⟩ := DataW.trod_int Tryz.underlying3 g0
      obtain ⟨z1, e1, _⟩ := DataW.trod_int Tryz.underlying3 g1
      obtain ⟨z2, e2, _⟩ := DataW.trod_int Tryz.underlying3 g2
      obtain ⟨z3, e3, _⟩ := DataW.trod_int Tryz.underlying3 g3
      obtain ⟨z4, e4, _⟩ := DataW.trod_int Tryz.underlying3 g4
      obtain ⟨z5, z6, z7, e5, e6, e7, b1, b2⟩ := day_dec g5
      obtain ⟨z8, e8, _⟩ := DataW.trod_int Tryz.underlying3 g6
      obtain ⟨z9, e9, _⟩ := DataW.trod_int Tryz.underlying3 g7
      obtain ⟨z10, d, s, e10, e11, e12, hs⟩ := tri_dec g8
      simp at e0 e1 e2 e3 e4 e8 e9
      subst e0 e1 e2 e3 e4 e5 e6 e7 e8 e9 e10 e11 e12
      exact ⟨⟨z0, z1, z2, z3, z4, z5, z6, z7, z8, z9, z10, d, s.data.toList⟩, by unfold linV strV; simp only; rw [bs_of], by simp only; rw [size_toList]; exact hs, b1, b2⟩
set_option maxRecDepth 100000 in
theorem open_src {H : Type} {enc : TypeId × Value → H} {w : World} {base : Nat} {spare : Nat → Bool} {held : Bool} {r : Reach} {b0 : Nat} {v : Value} {d : DataW H} {p : List MemPlace}
    (hv : Value.okWide Tryz.prog w r b0 26 v) (h : DataW.Trod enc Tryz.prog w base spare held 26 v d p) :
    ∃ (z : Src) (A : Option Addr) (c : Nat), v = .agg #[.string (bs z.nam), .int .i64 z.off, .bool z.dst, .string (bs z.abb), .slice A z.lns.length c] ∧ Rd w A (linVs z.lns) ∧ z.lns.length ≤ maxLen ∧ z.nam.length ≤ maxLen ∧ z.abb.length ≤ maxLen ∧ ∀ l ∈ z.lns, l.abb.length ≤ maxLen ∧ -9223372036854775808 ≤ l.dn ∧ l.dn ≤ 9223372036854775807 := by
  have c1 : Tryz.prog.cellsOf 9 = 1 := by kernel_rfl
  have c3 : Tryz.prog.cellsOf 26 = 5 := by kernel_rfl
  have c5 : Tryz.prog.cellsOf 23 = 3 := by kernel_rfl
  have c6 : Tryz.prog.cellsOf 24 = 1 := by kernel_rfl
  obtain ⟨cs, rfl, hsz⟩ := okWide_struct Tryz.underlying26 hv
  obtain ⟨a0, a1, a2, a3, a4, rfl⟩ := array5 (hsz.trans c3)
  obtain ⟨fuel, hf⟩ := h
  obtain ⟨y0, y1, y2, m, _, _, h0, h1, h2⟩ := trod_struct3 Tryz.underlying26 hf
  have g0 : DataW.trod enc Tryz.prog w base spare held m 9 [a0] = some y0 := by simpa [c1, Value.cells] using h0
  have g1 : DataW.trod enc Tryz.prog w base spare held m 23 [a1, a2, a3] = some y1 := by simpa [c5, Value.cells] using h1
  have g2 : DataW.trod enc Tryz.prog w base spare held m 24 [a4] = some y2 := by simpa [c6, Value.cells] using h2
  obtain ⟨s, e0, _, hs⟩ := DataW.trod_string Tryz.underlying9 g0
  obtain ⟨o, dd, s2, e1, e2, e3, hs2⟩ := tri_dec g1
  obtain ⟨T, A, c, e4, hR, _, hT⟩ := open_rows (α := {y : Lin // y.abb.length ≤ maxLen ∧ -9223372036854775808 ≤ y.dn ∧ y.dn ≤ 9223372036854775807}) (fun y => linV y.1) (fun _ => 0) Tryz.underlying24 (fun n cs d ps h1 h2 => by obtain ⟨y, hy, hb⟩ := lin_dec h1 h2; exact ⟨⟨y, hb⟩, hy, Nat.zero_le _⟩) g2
  simp at e0 e4
  subst e0 e1 e2 e3 e4
  have e : linVs (T.map (·.1)) = T.flatMap (fun y => linV y.1) := by unfold linVs; rw [List.flatMap_map]
  refine ⟨⟨s.data.toList, o, dd, s2.data.toList, T.map (·.1)⟩, A, c, by simp only [List.length_map]; rw [bs_of, bs_of], by rw [e]; exact hR, by simp only [List.length_map]; exact hT, by rw [size_toList]; exact hs, by rw [size_toList]; exact hs2, fun l hl => ?_⟩
  obtain ⟨y, _, rfl⟩ := List.mem_map.1 hl
  exact y.2
set_option maxRecDepth 100000 in
theorem open_tri {H : Type} {enc : TypeId × Value → H} {w : World} {base : Nat} {spare : Nat → Bool} {held : Bool} {r : Reach} {b0 : Nat} {v : Value} {d : DataW H} {p : List MemPlace}
    (hv : Value.okWide Tryz.prog w r b0 23 v) (h : DataW.Trod enc Tryz.prog w base spare held 23 v d p) :
    ∃ (o : Int) (dd : Bool) (s : List UInt8), v = .agg #[.int .i64 o, .bool dd, .string (bs s)] ∧ s.length ≤ maxLen := by
  obtain ⟨c0, c1, c2, y0, y1, y2, m, rfl, _, _, h0, h1, h2⟩ := open_agg3 Tryz.underlying23 (by kernel_rfl) (show Tryz.prog.cellsOf 23 = 3 by kernel_rfl) hv h
  obtain ⟨o, e0, _, _⟩ := DataW.trod_int Tryz.underlying3 h0
  obtain ⟨dd, e1, _⟩ := DataW.trod_bool Tryz.underlying4 h1
  obtain ⟨s, e2, _, hs⟩ := DataW.trod_string Tryz.underlying9 h2
  simp at e0 e1 e2
  subst e0 e1 e2
  exact ⟨o, dd, s.data.toList, by rw [bs_of], by rw [size_toList]; exact hs⟩
end Go.Proofs.YtacpcjdiljnlaaaGreatDoor
