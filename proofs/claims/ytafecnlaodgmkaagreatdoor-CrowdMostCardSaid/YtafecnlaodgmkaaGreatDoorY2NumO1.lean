/- Several texts in one: NumO. -/
import Derived.Test.YtafecnlaodgmkaaGreatDoorY2Cr1
import Derived.Test.YtafecnlaodgmkaaGreatDoorY2OpenS1
import Derived.Lib.SmallJoins
namespace Go.Proofs.YtafecnlaodgmkaaGreatDoor
open Go Go.ChangeShapes Go.WideShapes Go.ChangeAt Go.RowKit Go.Deep Go.Joins
set_option linter.unusedVariables false
theorem nmO_bd {a : Int} (w : (Lit.int .i64 a).wf = true) : -9223372036854775808 ≤ a ∧ a < 9223372036854775808 := by
  have h := bounds_i64 w
  omega
theorem num_dec {H : Type} {enc : TypeId × Value → H} {w : World} {base : Nat} {spare : Nat → Bool} {held : Bool} {n : Nat} {cs : List Value} {d : DataW H} {ps : List MemPlace}
    (h : DataW.trod enc Tryz.prog w base spare held n 3 cs = some (d, ps)) : ∃ y : {n : Int // -9223372036854775808 ≤ n ∧ n < 9223372036854775808}, cs = [.int .i64 y.1] := by
  obtain ⟨z, e0, _, hw⟩ := DataW.trod_int Tryz.underlying3 h
  exact ⟨⟨z, nmO_bd hw⟩, e0⟩
set_option maxRecDepth 100000 in
theorem open_nums {H : Type} {enc : TypeId × Value → H} {w : World} {base : Nat} {spare : Nat → Bool} {held : Bool} {r : Reach} {b0 : Nat} {v : Value} {d : DataW H} {p : List MemPlace}
    (hv : Value.okWide Tryz.prog w r b0 22 v) (h : DataW.Trod enc Tryz.prog w base spare held 22 v d p) :
    ∃ (l : List Int) (A : Option Addr) (c : Nat), v = .slice A l.length c ∧ Rd w A (intVs l) ∧ l.length ≤ maxLen ∧ ∀ a ∈ l, -9223372036854775808 ≤ a ∧ a < 9223372036854775808 := by
  obtain ⟨a, l, c, rfl⟩ := okWide_slice Tryz.underlying22 hv
  obtain ⟨fuel, hf⟩ := h
  obtain ⟨T, A, c', e, hR, _, hT⟩ := open_rows (α := {n : Int // -9223372036854775808 ≤ n ∧ n < 9223372036854775808}) (fun y => [.int .i64 y.1]) (fun _ => 0) Tryz.underlying22 (fun n cs d ps h1 h2 => by obtain ⟨y, hy⟩ := num_dec h1; exact ⟨y, hy, Nat.zero_le _⟩) hf
  have e2 : (.slice a l c : Value) = .slice A T.length c' := by simpa [Value.cells] using e
  refine ⟨T.map (·.1), A, c', by rw [e2, List.length_map], ?_, by simpa using hT, fun x hx => ?_⟩
  · have e3 : intVs (T.map (·.1)) = T.flatMap (fun y => [.int .i64 y.1]) := by unfold intVs; rw [List.map_map, List.map_eq_flatMap]; rfl
    rw [e3]; exact hR
  · obtain ⟨y, _, rfl⟩ := List.mem_map.1 hx
    exact y.2
end Go.Proofs.YtafecnlaodgmkaaGreatDoor
