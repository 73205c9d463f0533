/- A function's post behind a name that the walk does not open: else each walk that ends at a return of a struct tries, and fails, to return by itself (half a minute where the frame is great). No program. -/
import Derived.WalkKit
namespace Go.Proofs.Ytlpbkdihjpceoaa
open Go Go.ChangeShapes

def shutQ (Q : Exit → Act → World → Prop) : Exit → Act → World → Prop := Q
theorem wp_shut {P : Program} {c : Code} {Q : Exit → Act → World → Prop} {a : Act} {w : World} (h : c.wp P (shutQ Q) a w) : c.wp P Q a w := h
theorem shut_ret {P : Program} {fn : Func} {R : Ending → World → Prop} {a : Act} {w : World} {v : Value} (hr : (results fn a.tmps).run P w = .ok v w) (hd : a.defers = []) (hR : R (.returned v) w) : shutQ (bodyPost P fn R) .ret a w := bodyPost_ret hr hd hR
end Go.Proofs.Ytlpbkdihjpceoaa
