/- Several texts in one: WkA. -/
import Derived.Test.YtoopbgpoelpjfaaDoorZCiv1
namespace Go.Proofs.YtoopbgpoelpjfaaDoor
set_option linter.unusedVariables false
set_option linter.unusedSimpArgs false
open Go.ChangeShapes Go.WideShapes Go.ChangeAt Go.RowKit
def IsDate (n Y M D E : Int) : Prop :=
  ((n < -4371587 ∨ 2932896 < n) ∧ Y = 0 ∧ M = 0 ∧ D = 0 ∧ E = 8) ∨ (mayB Y M D = true ∧ -9999 ≤ Y ∧ Y ≤ 9999 ∧ dnI Y M D = n ∧ E = 0)
theorem isDate_ex (n : Int) : ∃ Y M D E, IsDate n Y M D E := by
  by_cases h : n < -4371587 ∨ 2932896 < n
  · exact ⟨0, 0, 0, 8, Or.inl ⟨h, rfl, rfl, rfl, rfl⟩⟩
  · obtain ⟨y, m, d, hm, y1, y2, e⟩ := date_ex n (by omega) (by omega)
    exact ⟨y, m, d, 0, Or.inr ⟨hm, y1, y2, e, rfl⟩⟩
theorem rDateOf_is {n Y M D E : Int} (h : IsDate n Y M D E) (w : World) : Calls Tryd.prog 16 #[.int .i64 n] w fun e w' => e = .returned (.tuple #[.agg #[.int .i64 Y, .int .i64 M, .int .i64 D], .int .i64 E]) ∧ Below w.heap.size w w' := by
  rcases h with ⟨h, rfl, rfl, rfl, rfl⟩ | ⟨hm, y1, y2, rfl, rfl⟩
  · exact rDateOf_out n h w
  · exact rDateOf_any Y M D hm y1 y2 w
end Go.Proofs.YtoopbgpoelpjfaaDoor
