/- Package period: three things gone over, each asked for its range. -/
import Derived.Test.YthlbmeemdhofpaaPerB
import Derived.Test.YthlbmeemdhofpaaRowS
namespace Go.Proofs.Ythlbmeemdhofpaa
set_option linter.unusedVariables false
set_option linter.unusedSimpArgs false
open Go.ChangeShapes Go.WideShapes Go.ChangeAt Go.RowKit

def KP (w0 w : World) : Prop := Below w0.heap.size w0 w
theorem kp_keep {w0 w w' : World} (h : Hid (KP w0 w)) (b : Below w.heap.size w w') : KP w0 w' := by
  have h' : Below w0.heap.size w0 w := h.out
  exact h'.trans (b.mono h'.size)
/-- the error of one thing: its own, or that its field is out of range. -/
def oneE (e v : Int) : Int := if e = 0 then (if inB v = true then 0 else 8) else e
/-- the error of three things. -/
@[irreducible] def eaE (e1 v1 e2 v2 e3 v3 : Int) : Int := if oneE e1 v1 = 0 then (if oneE e2 v2 = 0 then oneE e3 v3 else oneE e2 v2) else oneE e1 v1
theorem oneE_err {e v : Int} (h : e ≠ 0) : oneE e v = e := if_neg h
theorem oneE_in {v : Int} (h : -1000000 ≤ v ∧ v ≤ 1000000) : oneE 0 v = 0 := by unfold oneE; rw [if_pos rfl, if_pos ((inB_iff v).2 h)]
theorem oneE_out {v : Int} (h : ¬ (-1000000 ≤ v ∧ v ≤ 1000000)) : oneE 0 v = 8 := by unfold oneE; rw [if_pos rfl, if_neg (fun k => h ((inB_iff v).1 k))]
theorem eaE_1 {e1 v1 e2 v2 e3 v3 : Int} (h : oneE e1 v1 ≠ 0) : eaE e1 v1 e2 v2 e3 v3 = oneE e1 v1 := by unfold eaE; exact if_neg h
theorem eaE_2 {e1 v1 e2 v2 e3 v3 : Int} (h : oneE e1 v1 = 0) (h2 : oneE e2 v2 ≠ 0) : eaE e1 v1 e2 v2 e3 v3 = oneE e2 v2 := by unfold eaE; rw [if_pos h]; exact if_neg h2
theorem eaE_3 {e1 v1 e2 v2 e3 v3 : Int} (h : oneE e1 v1 = 0) (h2 : oneE e2 v2 = 0) : eaE e1 v1 e2 v2 e3 v3 = oneE e3 v3 := by unfold eaE; rw [if_pos h]; exact if_pos h2
end Go.Proofs.Ythlbmeemdhofpaa
