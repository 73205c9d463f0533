/- Several texts in one: PlanQ. -/
import Derived.Test.YteinjdmkmfeniaaGreatDoorZPkg1
namespace Go.Proofs.YteinjdmkmfeniaaGreatDoor
open Go Go.ChangeShapes
set_option linter.unusedVariables false
theorem region_planQ {P : Program} {ops : Array Oper} {Q : Exit → Act → World → Prop} {S : World → Prop} (plan : List (Nat × Bool)) {id : Nat} {a : Act} {w : World} (hm : P.follows .mixedOrders = true) (hn : Region.noSelect ops = true)
    (hp : planOK .any ops (Array.replicate ops.size false) plan = true) (hl : plan.length = ops.size) (hS : S w.drew)
    (hQ : ∀ (o : Oper) (v : Value) c a w, Q (.panic c) (a.put o.dst v) w → Q (.panic c) a w)
    (h : wpPlan P ops Q S plan a w.drew) : (Code.region id ops true).wp P Q a w :=
  wp_region_held_drew (S := S) hm hS fun _ => (by
    have x := plan_any (Q := Q) hn hQ plan _ a w.drew hp hS h
    rw [hl] at x
    exact x)
theorem put_defers (a : Act) (d : Option Tmp) (v : Value) : (a.put d v).defers = a.defers := by
  cases d <;> rfl
theorem planQ_body {P : Program} {fn : Func} {R : Ending → World → Prop} {K : Act → World → Prop} :
    ∀ (o : Oper) (v : Value) c a w, Exit.then K (bodyPost P fn R) (.panic c) (a.put o.dst v) w → Exit.then K (bodyPost P fn R) (.panic c) a w := fun o v c a w h => by
  have h' : (a.put o.dst v).defers = [] ∧ R (.panicked c) w := h
  rw [put_defers] at h'
  exact h'
theorem planQ_shut {P : Program} {fn : Func} {R : Ending → World → Prop} {K : Act → World → Prop} :
    ∀ (o : Oper) (v : Value) c a w, Exit.then K (shutQ (bodyPost P fn R)) (.panic c) (a.put o.dst v) w → Exit.then K (shutQ (bodyPost P fn R)) (.panic c) a w := fun o v c a w h => planQ_body (P := P) (fn := fn) (R := R) (K := K) o v c a w h
theorem planQ_block {P : Program} {fn : Func} {R : Ending → World → Prop} {K : Act → World → Prop} {id : Nat} :
    ∀ (o : Oper) (v : Value) c a w, Exit.inBlock id (Exit.then K (bodyPost P fn R)) (.panic c) (a.put o.dst v) w → Exit.inBlock id (Exit.then K (bodyPost P fn R)) (.panic c) a w := fun o v c a w h => planQ_body (P := P) (fn := fn) (R := R) (K := K) o v c a w h
end Go.Proofs.YteinjdmkmfeniaaGreatDoor
