/- Contracts of the plain answers of layer 1: below 0, of an int, order. -/
import Derived.Test.YthlbmeemdhofpaaRefA
import Derived.WalkKit
import Derived.ProofKit
import Derived.OpenShut
import Derived.Handy
import Derived.Outline
import Derived.Lib.Hide
import Derived.Deep.RegionHeld3
import Derived.Test.YthlbmeemdhofpaaLotP
namespace Go.Proofs.Ythlbmeemdhofpaa
set_option linter.unusedVariables false
open Go.ChangeShapes Go.WideShapes Go.ChangeAt Go.RowKit

theorem ret_bool {a b : Bool} (h : a = b) : Ending.returned (.bool a) = Ending.returned (.bool b) := by rw [h]
theorem ret_int {k : IntKind} {a b : Int} (h : a = b) : Ending.returned (.int k a) = Ending.returned (.int k b) := by rw [h]
def neg (h : Nat) : Bool := decide (9223372036854775808 ≤ h)
def ofH (n : Int) : Nat := if n < 0 then 18446744073709551615 else 0
def ofL (n : Int) : Nat := (n % 18446744073709551616).toNat
theorem ofH_U (n : Int) : U (ofH n) := by unfold U ofH; split <;> omega
theorem ofL_U (n : Int) : U (ofL n) := by unfold U ofL; omega
theorem wrap_ofL (n : Int) : IntKind.u64.wrap n = (ofL n : Int) := by rw [IntKind.wrap_u64]; unfold ofL; omega
theorem refOf_any (n : Int) (w : World) : Calls Try.prog 43 #[.int .i64 n] w fun e w' => e = .returned (.agg #[.int .u64 (ofH n), .int .u64 (ofL n)]) ∧ Below w.heap.size w w' := by
  have HW := Lib.hid (wrap_ofL n)
  by_cases h : n < 0
  · have HO := Lib.hid (show (ofH n : Int) = 18446744073709551615 by unfold ofH; rw [if_pos h]; rfl)
    go_enter Try.func43, Try.ntmps43
    refine wp_shut ?_
    go_wp2
    refine shut_ret (v := .agg #[.int .u64 18446744073709551615, .int .u64 (IntKind.u64.wrap n)]) (by simp [results, Try.results43, go_sem]) rfl ⟨by rw [HO.out, HW.out], (Below.refl _ _).alloc (Nat.le_refl _) _⟩
  · have HO := Lib.hid (show (ofH n : Int) = 0 by unfold ofH; rw [if_neg h]; rfl)
    go_enter Try.func43, Try.ntmps43
    refine wp_shut ?_
    go_wp2
    refine shut_ret (v := .agg #[.int .u64 0, .int .u64 (IntKind.u64.wrap n)]) (by simp [results, Try.results43, go_sem]) rfl ⟨by rw [HO.out, HW.out], (Below.refl _ _).alloc (Nat.le_refl _) _⟩

def cmpI (a b : Nat) : Int := if a = b then 0 else if a < b then -1 else 1
theorem num_eq {h1 l1 h2 l2 : Nat} (v1 : U l1) (v2 : U l2) : num h1 l1 = num h2 l2 ↔ h1 = h2 ∧ l1 = l2 := by unfold num; unfold U at *; omega
theorem num_lt_iff {h1 l1 h2 l2 : Nat} (v1 : U l1) (v2 : U l2) : num h1 l1 < num h2 l2 ↔ h1 < h2 ∨ (h1 = h2 ∧ l1 < l2) := by unfold num; unfold U at *; omega
def sgnI (a1 h1 a2 h2 : Nat) : Int := if neg h1 != neg h2 then (if neg h1 then -1 else 1) else cmpI a1 a2
end Go.Proofs.Ythlbmeemdhofpaa
