/- Plain facts on decimal digits; contracts of the plain answers' digits. -/
import Derived.Test.YtlpbkdihjpceoaaRefP
import Derived.Test.YtlpbkdihjpceoaaRefG
import Derived.WalkKit
import Derived.ProofKit
import Derived.OpenShut
import Derived.Handy
import Derived.Outline
import Derived.Lib.Hide
import Derived.WalkSpells
import Derived.WalkLawsBesides
namespace Go.Proofs.Ytlpbkdihjpceoaa
set_option linter.unusedVariables false
open Go.ChangeShapes Go.WideShapes Go.ChangeAt Go.RowKit

/-- the digit's byte. -/
def dch (d : Nat) : UInt8 := UInt8.ofNat (48 + d)
def dgf : Nat → Nat → List UInt8
  | 0, _ => []
  | f + 1, n => (if n / 10 = 0 then [] else dgf f (n / 10)) ++ [dch (n % 10)]
/-- a number's digits. -/
def dg (n : Nat) : List UInt8 := dgf (n + 1) n
theorem dgf_eq (n : Nat) : ∀ f g, n < f → n < g → dgf f n = dgf g n := by
  induction n using Nat.strongRecOn with
  | ind n ih =>
    intro f g hf hg
    obtain ⟨f, rfl⟩ : ∃ k, f = k + 1 := ⟨f - 1, by omega⟩
    obtain ⟨g, rfl⟩ : ∃ k, g = k + 1 := ⟨g - 1, by omega⟩
    unfold dgf
    by_cases h : n / 10 = 0
    · simp [h]
    · rw [if_neg h, if_neg h, ih (n / 10) (by omega) f g (by omega) (by omega)]
theorem dg_step (n : Nat) : dg n = (if n / 10 = 0 then [] else dg (n / 10)) ++ [dch (n % 10)] := by
  unfold dg
  conv => lhs; unfold dgf
  by_cases h : n / 10 = 0
  · simp [h]
  · rw [if_neg h, if_neg h, dgf_eq (n / 10) n (n / 10 + 1) (by omega) (by omega)]
theorem dch_val (d : Nat) (h : d < 10) : ((dch d).toNat : Int) = 48 + (d : Int) := by
  unfold dch; rw [UInt8.toNat_ofNat']; omega

theorem convDigit (r : Nat) (hr : r < 10) (W : World) (o : Obj) :
    (convert 65 9 (.slice (some ⟨W.heap.size + 1, 0, none⟩) 1 1)).run Try.prog ((W.alloc o).alloc (.cells #[.int .u8 ((48 + (r : Int)) % 256)] 5)) = .ok (.string ⟨#[dch r]⟩) ((W.alloc o).alloc (.cells #[.int .u8 ((48 + (r : Int)) % 256)] 5)) := by
  rw [run_convert_bytes_string _ _ _ _ _ _ _ Try.underlying65 Try.underlying5 Try.underlying9]
  have hl : (loadCells (⟨W.heap.size + 1, 0, none⟩ : Addr) 1).run Try.prog ((W.alloc o).alloc (.cells #[.int .u8 ((48 + (r : Int)) % 256)] 5)) = .ok ([(48 + (r : Int)) % 256].map (Value.int .u8)).toArray ((W.alloc o).alloc (.cells #[.int .u8 ((48 + (r : Int)) % 256)] 5)) :=
    run_loadCells_list (P := Try.prog) _ (⟨W.heap.size + 1, 0, none⟩ : Addr) [.int .u8 ((48 + (r : Int)) % 256)] (fun j v hv => by
      have hj : j = 0 := by
        rcases Nat.lt_or_ge j 1 with h | h
        · omega
        · rw [List.getElem?_eq_none (by simpa using h)] at hv; cases hv
      subst hj
      simp at hv
      subst hv
      simp [Addr.add])
  rw [run_bytesToString _ _ 1 1 [(48 + (r : Int)) % 256] hl]
  have e : ((48 + (r : Int)) % 256).toNat = 48 + r := by omega
  simp only [List.foldl_cons, List.foldl_nil, e]
  rfl
theorem str_app (a b : List UInt8) : ((⟨a.toArray⟩ : ByteArray) ++ (⟨b.toArray⟩ : ByteArray)) = ⟨(a ++ b).toArray⟩ := by
  apply ByteArray.ext
  simp [ByteArray.data_append]
theorem row_set {w : World} {b : Nat} {x y : Value} {t : TypeId} (h : w.heap[b]? = some (.cells #[x, y] t (0, 0))) (p q : Value) :
    ((w.setCell ⟨b, 0, none⟩ p).setCell ⟨b, 1, none⟩ q).heap[b]? = some (.cells #[p, q] t (0, 0)) := by
  simp [World.setCell, Array.getElem?_modify, h]
theorem row_alloc {w : World} {b : Nat} {x : Obj} (h : w.heap[b]? = some x) (o : Obj) : (w.alloc o).heap[b]? = some x := by
  rw [heap_alloc_old _ _ (lt_of_heap h)]; exact h
def lenOf : Value → Nat | .string b => b.size | _ => 0
theorem lenStr (st : List UInt8) : lenOf (.string ⟨st.toArray⟩) = st.length := by show st.toArray.size = _; simp
theorem lenApp (c : UInt8) (st : List UInt8) : lenOf (.string (⟨#[c]⟩ ++ ⟨st.toArray⟩)) = st.length + 1 := by
  rw [show ((⟨#[c]⟩ : ByteArray) ++ ⟨st.toArray⟩) = ⟨([c] ++ st).toArray⟩ from str_app [c] st, lenStr]; simp
/-- the reference's Div by ten, with its results by name. -/
theorem refDiv10 (h l : Nat) (u : U h) (v : U l) : ∃ q r : Nat, Hid (q = num h l / 10 ∧ r = num h l % 10) ∧ ∀ w, Calls Try.prog 65 #[.agg #[.int .u64 h, .int .u64 l], .int .u64 10] w fun e w' => e = .returned (.tuple #[.agg #[.int .u64 (hi q), .int .u64 (lo q)], .int .u64 r, .int .i64 0]) ∧ Below w.heap.size w w' :=
  ⟨_, _, ⟨rfl, rfl⟩, fun w => refDiv_any h l 10 u v (by unfold U; omega) (by omega) w⟩

set_option maxHeartbeats 400000 in
set_option maxRecDepth 100000 in
theorem digits_any (h l : Nat) (u : U h) (v : U l) (w : World) :
    Calls Try.prog 42 #[.agg #[.int .u64 h, .int .u64 l]] w fun e w' => e = .returned (.string ⟨(dg (num h l)).toArray⟩) ∧ Below w.heap.size w w' := by
  have hA := num_lt u v
  have HA := Lib.hid hA
  clear hA
  go_enter Try.func42, Try.ntmps42
  go_wp2_with fail
  go_loopw [3] (fun s3 wr => ∃ (x y : Nat) (st : List UInt8), Hid (U x ∧ U y ∧ st.length ≤ 38 ∧ num x y * 10 ^ st.length ≤ num h l ∧ dg (num h l) = dg (num x y) ++ st) ∧ s3 = .string ⟨st.toArray⟩ ∧ wr.heap[w.heap.size]? = some (.cells #[.int .u64 x, .int .u64 y] 24 (0, 0)) ∧ Below w.heap.size w wr) (fun s3 _ => 39 - lenOf s3)
  case atStart => exact ⟨h, l, [], ⟨u, v, by decide, by simp, by simp⟩, rfl, by simpa using heap_alloc_new w _, (Below.refl _ _).alloc (Nat.le_refl _) _⟩
  case round =>
    obtain ⟨x, y, st, HI, rfl, hcx, hB⟩ := hrel
    obtain ⟨q, r, HQ, hc⟩ := refDiv10 x y HI.out.1 HI.out.2.1
    have HC := Lib.hid hc
    have k0 : wr.cell? ⟨w.heap.size, 0, none⟩ = some (.int .u64 x) := cell_of_row _ _ _ _ _ _ hcx
    have k1 : wr.cell? ⟨w.heap.size, 1, none⟩ = some (.int .u64 y) := cell_of_row _ _ _ _ _ _ hcx
    have HCX := Lib.hid hcx
    have HB := Lib.hid hB
    clear hc hcx hB
    go_wp2_with fail
    refine (HC.out _).mono ?_
    rintro e w1 ⟨rfl, hb1⟩
    have hcx1 : w1.heap[w.heap.size]? = some (.cells #[.int .u64 x, .int .u64 y] 24 (0, 0)) := by rw [hb1.block _ (lt_of_heap HCX.out)]; exact HCX.out
    have k0' : w1.cell? ⟨w.heap.size, 0, none⟩ = some (.int .u64 x) := cell_of_row _ _ _ _ _ _ hcx1
    have k1' : w1.cell? ⟨w.heap.size, 1, none⟩ = some (.int .u64 y) := cell_of_row _ _ _ _ _ _ hcx1
    have f0 : w1.frozen? ⟨w.heap.size, 0, none⟩ = false := by simp [World.frozen?, hcx1]
    have f1 : w1.frozen? ⟨w.heap.size, 1, none⟩ = false := by simp [World.frozen?, hcx1]
    have hsz : w.heap.size < w1.heap.size := lt_of_heap hcx1
    have HCX1 := Lib.hid hcx1
    have HB1 := Lib.hid (HB.out.trans (hb1.mono (Nat.le_of_lt (lt_of_heap HCX.out))))
    clear hcx1 hb1 k0 k1
    have cv := convDigit r (by have := HQ.out.2; omega)
    have fr : IntKind.u64.wrap (48 + (r : Int)) = ((48 + r : Nat) : Int) := by have := HQ.out.2; rw [IntKind.wrap_u64]; omega
    go_simp
    have hI := HI.out
    have hst : ¬ (9223372036854775807 < 1 + st.length) := by omega
    have hq := HQ.out
    have hdg := dg_step (num x y)
    rw [← hq.1, ← hq.2] at hdg
    by_cases hq0 : q = 0
    · subst hq0
      have z1 : (hi 0 : Int) = 0 := by unfold hi; rfl
      have z2 : (lo 0 : Int) = 0 := by unfold lo; rfl
      have HR : Hid (dg (num h l) = dch r :: st) := by show _ = _; rw [hI.2.2.2.2, hdg]; simp
      clear hI hq hdg
      go_wp2
      go_ret
      refine ⟨by rw [HR.out]; exact congrArg (fun b => Ending.returned (.string b)) (str_app [dch r] st), ?_⟩
      have h1 := HB1.out
      have h2 := h1.size
      go_grown
    · have hlt : q < 340282366920938463463374607431768211456 := by rw [hq.1]; have := num_lt hI.1 hI.2.1; omega
      have HN : Hid (U (hi q) ∧ U (lo q) ∧ (dch r :: st).length ≤ 38 ∧ num (hi q) (lo q) * 10 ^ (dch r :: st).length ≤ num h l ∧ dg (num h l) = dg (num (hi q) (lo q)) ++ (dch r :: st)) := by
        rw [num_hl_of hlt]
        have h10 : q * 10 ^ (st.length + 1) ≤ num h l := by
          have h1 : q * 10 ≤ num x y := by rw [hq.1]; omega
          have h2 : q * 10 * 10 ^ st.length ≤ num x y * 10 ^ st.length := Nat.mul_le_mul_right _ h1
          rw [Nat.pow_succ, Nat.mul_comm (10 ^ st.length) 10, ← Nat.mul_assoc]
          exact Nat.le_trans h2 hI.2.2.2.1
        refine ⟨hi_U _, lo_U _, ?_, by simpa using h10, ?_⟩
        · rcases Nat.lt_or_ge 38 (st.length + 1) with h38 | h38
          · have h3 : 10 ^ 39 ≤ 10 ^ (st.length + 1) := Nat.pow_le_pow_right (by omega) (by omega)
            have h4 : 1 * 10 ^ (st.length + 1) ≤ q * 10 ^ (st.length + 1) := Nat.mul_le_mul_right _ (by omega)
            have h5 := HA.out
            have h6 : (340282366920938463463374607431768211456 : Nat) < 10 ^ 39 := by decide
            omega
          · simpa using h38
        · rw [hI.2.2.2.2, hdg, if_neg hq0]; simp
      have hqz : ¬ (hi q = 0 ∧ lo q = 0) := fun ⟨a, b⟩ => hq0 (by have := num_hl_of hlt; rw [a, b, num_zero] at this; omega)
      have HL := Lib.hid hI.2.2.1
      clear hI hq hdg hlt
      by_cases hz : hi q = 0
      · have hz2 : ¬ (lo q = 0) := fun b => hqz ⟨hz, b⟩
        clear hqz
        have z1 : (hi q : Int) = 0 := by rw [hz]; rfl
        have HZ := Lib.hid hz
        clear hz
        have z2 : ((lo q : Int) == 0) = false := by rw [beq_eq_false_iff_ne]; omega
        go_wp2
        go_roundw
        case rel =>
          have h1 := HB1.out
          have h2 := h1.size
          exact ⟨hi q, lo q, dch r :: st, HN, congrArg Value.string (str_app [dch r] st), by first | exact row_alloc (row_alloc (row_set HCX1.out _ _) _) _ | (rw [z1]; exact row_alloc (row_alloc (row_set HCX1.out _ _) _) _), by go_grown⟩
        case measure => show 39 - lenOf (.string (⟨#[dch r]⟩ ++ ⟨st.toArray⟩)) < 39 - lenOf (.string ⟨st.toArray⟩); rw [lenApp, lenStr]; have := HL.out; omega
      · clear hqz
        have z2 : ((hi q : Int) == 0) = false := by rw [beq_eq_false_iff_ne]; omega
        go_wp2
        go_roundw
        case rel =>
          have h1 := HB1.out
          have h2 := h1.size
          exact ⟨hi q, lo q, dch r :: st, HN, congrArg Value.string (str_app [dch r] st), by first | exact row_alloc (row_alloc (row_set HCX1.out _ _) _) _ | (rw [z1]; exact row_alloc (row_alloc (row_set HCX1.out _ _) _) _), by go_grown⟩
        case measure => show 39 - lenOf (.string (⟨#[dch r]⟩ ++ ⟨st.toArray⟩)) < 39 - lenOf (.string ⟨st.toArray⟩); rw [lenApp, lenStr]; have := HL.out; omega
end Go.Proofs.Ytlpbkdihjpceoaa
