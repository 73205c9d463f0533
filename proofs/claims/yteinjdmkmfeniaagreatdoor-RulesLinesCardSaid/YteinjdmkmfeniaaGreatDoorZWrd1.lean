/- Several texts in one: WrdA, WrdB, WrdC, WrdD, WrdE, WrdF, WrdG, WrdM, WrdH. -/
import Derived.Test.YteinjdmkmfeniaaGreatDoorZLex1
import Derived.Test.YteinjdmkmfeniaaGreatDoorZPkg1
import Derived.Test.YteinjdmkmfeniaaGreatDoorZRowS1
import Derived.Test.YteinjdmkmfeniaaGreatDoorZCiv1
import Derived.Test.YteinjdmkmfeniaaGreatDoorZCt1
import Derived.Laws.IdiomStrings
namespace Go.Proofs.YteinjdmkmfeniaaGreatDoor
set_option linter.unusedVariables false
set_option linter.unusedSimpArgs false
open Go.ChangeShapes Go.WideShapes Go.ChangeAt Go.RowKit
def dgB (c : UInt8) : Bool := decide (48 ≤ c.toNat) && decide (c.toNat ≤ 57)
theorem dgB_iff (c : UInt8) : dgB c = true ↔ 48 ≤ c.toNat ∧ c.toNat ≤ 57 := by unfold dgB; simp
def dval (t : List UInt8) : Nat := t.foldl (fun a c => 10 * a + (c.toNat - 48)) 0
theorem dval_snoc (t : List UInt8) (c : UInt8) : dval (t ++ [c]) = 10 * dval t + (c.toNat - 48) := by unfold dval; rw [List.foldl_append]; rfl
theorem dval_lt (t : List UInt8) (h : t.all dgB = true) : dval t < 10 ^ t.length := by
  induction t using snocInd with
  | h0 => decide
  | h t c ih =>
    rw [List.all_append, Bool.and_eq_true] at h
    have h1 := ih h.1
    have h2 : dgB c = true := by simpa using h.2
    rw [dgB_iff] at h2
    rw [dval_snoc, List.length_append, List.length_singleton, Nat.pow_succ]
    omega
@[irreducible] def dgV (t : List UInt8) : Int := if t.all dgB = true then (dval t : Int) else -1
theorem dgV_ok {t : List UInt8} (h : t.all dgB = true) : dgV t = (dval t : Int) := by unfold dgV; exact if_pos h
theorem dgV_no {t : List UInt8} (h : ¬ t.all dgB = true) : dgV t = -1 := by unfold dgV; exact if_neg h
theorem pow_le18 {n : Nat} (h : n ≤ 17) : 10 ^ n ≤ 100000000000000000 := Nat.le_trans (Nat.pow_le_pow_right (by decide) h) (by decide)
def sub (L : List UInt8) (a n : Nat) : List UInt8 := (L.drop a).take n
theorem sub_succ (L : List UInt8) (a n : Nat) (h : a + n < L.length) : sub L a (n + 1) = sub L a n ++ [L[a + n]] := by
  unfold sub
  rw [List.take_succ_eq_append_getElem (by simp; omega), List.getElem_drop]
end Go.Proofs.YteinjdmkmfeniaaGreatDoor
namespace Go.Proofs.YteinjdmkmfeniaaGreatDoor
set_option linter.unusedVariables false
set_option linter.unusedSimpArgs false
open Go.ChangeShapes Go.WideShapes Go.ChangeAt Go.RowKit
def negB (L : List UInt8) : Bool := match L with | c :: _ => c.toNat == 45 | [] => false
def bodyN (L : List UInt8) : List UInt8 := if negB L = true then L.drop 1 else L
def zero1 (t : List UInt8) : Bool := match t with | c :: _ => c.toNat == 48 | [] => false
def numF (t : List UInt8) (neg : Bool) : Bool := decide (1 ≤ t.length) && decide (t.length ≤ 6) && t.all dgB && !(zero1 t && (decide (1 < t.length) || neg))
@[irreducible] def numI (L : List UInt8) : Int := if negB L = true then -(dval (bodyN L) : Int) else (dval (bodyN L) : Int)
@[irreducible] def numE (L : List UInt8) (lo hi : Int) : Int := if numF (bodyN L) (negB L) = true then (if numI L < lo ∨ hi < numI L then 8 else 0) else 2
@[irreducible] def numV (L : List UInt8) (lo hi : Int) : Int := if numE L lo hi = 0 then numI L else 0
theorem num_form {L : List UInt8} {lo hi : Int} (h : numF (bodyN L) (negB L) = false) : numE L lo hi = 2 ∧ numV L lo hi = 0 := by
  have e : numE L lo hi = 2 := by unfold numE; exact if_neg (by rw [h]; decide)
  exact ⟨e, by unfold numV; rw [e]; rfl⟩
theorem num_range {L : List UInt8} {lo hi : Int} (h : numF (bodyN L) (negB L) = true) (h2 : numI L < lo ∨ hi < numI L) : numE L lo hi = 8 ∧ numV L lo hi = 0 := by
  have e : numE L lo hi = 8 := by unfold numE; rw [if_pos h]; exact if_pos h2
  exact ⟨e, by unfold numV; rw [e]; rfl⟩
theorem num_ok {L : List UInt8} {lo hi : Int} (h : numF (bodyN L) (negB L) = true) (h2 : ¬ (numI L < lo ∨ hi < numI L)) : numE L lo hi = 0 ∧ numV L lo hi = numI L := by
  have e : numE L lo hi = 0 := by unfold numE; rw [if_pos h]; exact if_neg h2
  exact ⟨e, by unfold numV; rw [e]; rfl⟩
theorem numF_short {t : List UInt8} {neg : Bool} (h : t.length < 1) : numF t neg = false := by unfold numF; rw [decide_eq_false (show ¬ 1 ≤ t.length by omega)]; rfl
theorem numF_odd {t : List UInt8} {neg : Bool} (h : ¬ t.all dgB = true) : numF t neg = false := by unfold numF; rw [Bool.eq_false_iff.2 h]; simp
theorem numF_zero {t : List UInt8} {neg : Bool} (h : zero1 t = true) (h2 : 1 < t.length ∨ neg = true) : numF t neg = false := by
  unfold numF
  rw [h]
  rcases h2 with h2 | h2
  · rw [decide_eq_true h2]; simp
  · rw [h2]; simp
theorem numF_yes {t : List UInt8} {neg : Bool} (h1 : 1 ≤ t.length) (h6 : t.length ≤ 6) (h : t.all dgB = true) (hz : zero1 t = false ∨ (¬ 1 < t.length ∧ neg = false)) : numF t neg = true := by
  unfold numF
  rw [decide_eq_true h1, decide_eq_true h6, h]
  rcases hz with hz | ⟨hz, hn⟩
  · rw [hz]; rfl
  · rw [hn, decide_eq_false hz]; simp
theorem neg_at {L : List UInt8} (h : 0 < L.length) : negB L = (L[0].toNat == 45) ∧ zero1 L = (L[0].toNat == 48) := by
  cases L with
  | nil => simp at h
  | cons c r => exact ⟨rfl, rfl⟩
theorem body_neg {L : List UInt8} (h : negB L = true) : bodyN L = L.drop 1 ∧ 0 < L.length := by
  refine ⟨if_pos h, ?_⟩
  cases L with
  | nil => cases h
  | cons c r => simp
theorem body_pos {L : List UInt8} (h : negB L = false) : bodyN L = L := if_neg (by rw [h]; decide)
theorem numI_neg {L : List UInt8} (h : negB L = true) : numI L = -(dval (bodyN L) : Int) := by unfold numI; exact if_pos h
theorem numI_pos {L : List UInt8} (h : negB L = false) : numI L = (dval (bodyN L) : Int) := by unfold numI; exact if_neg (by rw [h]; decide)
end Go.Proofs.YteinjdmkmfeniaaGreatDoor
namespace Go.Proofs.YteinjdmkmfeniaaGreatDoor
set_option linter.unusedVariables false
set_option linter.unusedSimpArgs false
open Go.ChangeShapes Go.WideShapes Go.ChangeAt Go.RowKit
def hmF (t : List UInt8) : Bool := (decide (t.length = 5) || decide (t.length = 8)) && ((t.getD 2 0).toNat == 58) && (decide (t.length = 5) || (t.getD 5 0).toNat == 58)
def hmX (t : List UInt8) : Int := if t.length = 8 then dgV (sub t 6 2) else 0
def hmO (h m x : Int) : Bool := decide (0 ≤ h) && decide (0 ≤ m) && decide (0 ≤ x) && decide (m ≤ 59) && decide (x ≤ 59)
@[irreducible] def hmsV (t : List UInt8) : Int := if (hmF t && hmO (dgV (sub t 0 2)) (dgV (sub t 3 2)) (hmX t)) = true then 3600 * dgV (sub t 0 2) + 60 * dgV (sub t 3 2) + hmX t else -1
theorem hms_no {t : List UInt8} (h : hmF t = false) : hmsV t = -1 := by unfold hmsV; exact if_neg (by rw [h, Bool.false_and]; decide)
theorem hms_odd {t : List UInt8} (h : hmO (dgV (sub t 0 2)) (dgV (sub t 3 2)) (hmX t) = false) : hmsV t = -1 := by unfold hmsV; exact if_neg (by rw [h, Bool.and_false]; decide)
theorem hms_ok {t : List UInt8} (h : hmF t = true) (h2 : hmO (dgV (sub t 0 2)) (dgV (sub t 3 2)) (hmX t) = true) : hmsV t = 3600 * dgV (sub t 0 2) + 60 * dgV (sub t 3 2) + hmX t := by unfold hmsV; exact if_pos (by rw [h, h2]; rfl)
theorem hmO_no {h m x : Int} (hh : h < 0 ∨ m < 0 ∨ x < 0 ∨ 59 < m ∨ 59 < x) : hmO h m x = false := by unfold hmO; simp; omega
theorem hmO_ok {h m x : Int} (h0 : ¬ h < 0) (h1 : ¬ m < 0) (h2 : ¬ x < 0) (h3 : ¬ 59 < m) (h4 : ¬ 59 < x) : hmO h m x = true := by unfold hmO; simp; omega
theorem getD_of {t : List UInt8} {k c : Nat} (h : k < t.length) (hc : t[k].toNat = c) : (t.getD k 0).toNat = c := by simp [List.getD, List.getElem?_eq_getElem h, hc]
theorem hmF_5 {t : List UInt8} {c : Nat} (h : t.length = 5) (hc : (t[2]'(by omega)).toNat = c) (h2 : c = 58) : hmF t = true := by
  unfold hmF
  rw [getD_of (by omega) hc, h2, decide_eq_true h]; rfl
theorem hmF_8 {t : List UInt8} {c d : Nat} (h : t.length = 8) (hc : (t[2]'(by omega)).toNat = c) (h2 : c = 58) (hd : (t[5]'(by omega)).toNat = d) (h3 : d = 58) : hmF t = true := by
  unfold hmF
  rw [getD_of (by omega) hc, getD_of (by omega) hd, h2, h3, decide_eq_true h]; simp
theorem hmX_5 {t : List UInt8} (h : t.length = 5) : hmX t = 0 := by unfold hmX; exact if_neg (by omega)
theorem hmX_8 {t : List UInt8} (h : t.length = 8) : hmX t = dgV (sub t 6 2) := by unfold hmX; exact if_pos h
theorem two_bd {t : List UInt8} (a : Nat) : -1 ≤ dgV (sub t a 2) ∧ dgV (sub t a 2) < 100 := by
  have hl : (sub t a 2).length ≤ 2 := by unfold sub; simp; omega
  by_cases h1 : (sub t a 2).all dgB = true
  · rw [dgV_ok h1]
    have h2 := dval_lt _ h1
    have h3 : 10 ^ (sub t a 2).length ≤ 10 ^ 2 := Nat.pow_le_pow_right (by decide) hl
    omega
  · rw [dgV_no h1]; omega
theorem hms_bd (t : List UInt8) : -1 ≤ hmsV t ∧ hmsV t < 400000 := by
  cases h : hmF t && hmO (dgV (sub t 0 2)) (dgV (sub t 3 2)) (hmX t)
  · have e : hmsV t = -1 := by unfold hmsV; exact if_neg (by rw [h]; decide)
    omega
  · rw [Bool.and_eq_true] at h
    rw [hms_ok h.1 h.2]
    have h3 := (two_bd (t := t) 0).2
    have h4 := h.2
    unfold hmO at h4
    simp at h4
    omega
def hd0 (L : List UInt8) : Nat := (L.getD 0 0).toNat
@[irreducible] def offE (L : List UInt8) : Int := if hd0 L ≠ 43 ∧ hd0 L ≠ 45 then 2 else if hmsV (L.drop 1) < 0 ∨ (hmsV (L.drop 1) = 0 ∧ hd0 L = 45) then 2 else if 64800 < hmsV (L.drop 1) then 8 else 0
@[irreducible] def offV (L : List UInt8) : Int := if offE L = 0 then (if hd0 L = 45 then -hmsV (L.drop 1) else hmsV (L.drop 1)) else 0
theorem off_form {L : List UInt8} (h : hd0 L ≠ 43 ∧ hd0 L ≠ 45) : offE L = 2 ∧ offV L = 0 := by
  have e : offE L = 2 := by unfold offE; exact if_pos h
  exact ⟨e, by unfold offV; rw [e]; rfl⟩
theorem off_odd {L : List UInt8} (h : ¬ (hd0 L ≠ 43 ∧ hd0 L ≠ 45)) (h2 : hmsV (L.drop 1) < 0 ∨ (hmsV (L.drop 1) = 0 ∧ hd0 L = 45)) : offE L = 2 ∧ offV L = 0 := by
  have e : offE L = 2 := by unfold offE; rw [if_neg h]; exact if_pos h2
  exact ⟨e, by unfold offV; rw [e]; rfl⟩
theorem off_range {L : List UInt8} (h : ¬ (hd0 L ≠ 43 ∧ hd0 L ≠ 45)) (h2 : ¬ (hmsV (L.drop 1) < 0 ∨ (hmsV (L.drop 1) = 0 ∧ hd0 L = 45))) (h3 : 64800 < hmsV (L.drop 1)) : offE L = 8 ∧ offV L = 0 := by
  have e : offE L = 8 := by unfold offE; rw [if_neg h, if_neg h2]; exact if_pos h3
  exact ⟨e, by unfold offV; rw [e]; rfl⟩
theorem off_ok {L : List UInt8} (h : ¬ (hd0 L ≠ 43 ∧ hd0 L ≠ 45)) (h2 : ¬ (hmsV (L.drop 1) < 0 ∨ (hmsV (L.drop 1) = 0 ∧ hd0 L = 45))) (h3 : ¬ 64800 < hmsV (L.drop 1)) : offE L = 0 ∧ offV L = (if hd0 L = 45 then -hmsV (L.drop 1) else hmsV (L.drop 1)) := by
  have e : offE L = 0 := by unfold offE; rw [if_neg h, if_neg h2]; exact if_neg h3
  exact ⟨e, by unfold offV; rw [e]; rfl⟩
@[irreducible] def timE (L : List UInt8) : Int := if hmsV L < 0 then 2 else if 86400 < hmsV L then 8 else 0
@[irreducible] def timV (L : List UInt8) : Int := if timE L = 0 then hmsV L else 0
theorem tim_form {L : List UInt8} (h : hmsV L < 0) : timE L = 2 ∧ timV L = 0 := by
  have e : timE L = 2 := by unfold timE; exact if_pos h
  exact ⟨e, by unfold timV; rw [e]; rfl⟩
theorem tim_range {L : List UInt8} (h : ¬ hmsV L < 0) (h2 : 86400 < hmsV L) : timE L = 8 ∧ timV L = 0 := by
  have e : timE L = 8 := by unfold timE; rw [if_neg h]; exact if_pos h2
  exact ⟨e, by unfold timV; rw [e]; rfl⟩
theorem tim_ok {L : List UInt8} (h : ¬ hmsV L < 0) (h2 : ¬ 86400 < hmsV L) : timE L = 0 ∧ timV L = hmsV L := by
  have e : timE L = 0 := by unfold timE; rw [if_neg h]; exact if_neg h2
  exact ⟨e, by unfold timV; rw [e]; rfl⟩
end Go.Proofs.YteinjdmkmfeniaaGreatDoor
namespace Go.Proofs.YteinjdmkmfeniaaGreatDoor
set_option linter.unusedVariables false
set_option linter.unusedSimpArgs false
open Go.ChangeShapes Go.WideShapes Go.ChangeAt Go.RowKit
@[irreducible] def letN (c : Nat) : Bool := (decide (97 ≤ c) && decide (c ≤ 122)) || (decide (65 ≤ c) && decide (c ≤ 90))
theorem let_cases (c : Nat) : (c < 65 ∧ letN c = false) ∨ ((65 ≤ c ∧ c ≤ 90) ∧ letN c = true) ∨ ((90 < c ∧ c < 97) ∧ letN c = false) ∨ ((97 ≤ c ∧ c ≤ 122) ∧ letN c = true) ∨ (122 < c ∧ letN c = false) := by
  unfold letN
  by_cases h1 : c < 65
  · left; refine ⟨h1, ?_⟩; simp; omega
  · by_cases h2 : c ≤ 90
    · right; left; refine ⟨by omega, ?_⟩; simp; omega
    · by_cases h3 : c < 97
      · right; right; left; refine ⟨by omega, ?_⟩; simp; omega
      · by_cases h4 : c ≤ 122
        · right; right; right; left; refine ⟨by omega, ?_⟩; simp; omega
        · right; right; right; right; refine ⟨by omega, ?_⟩; simp; omega
def letAll (L : List UInt8) : Bool := L.all (fun c => letN c.toNat)
@[irreducible] def abbE (L : List UInt8) : Int := if letAll L = true ∧ 1 ≤ L.length ∧ L.length ≤ 6 then 0 else 2
theorem all_take {α : Type} {p : α → Bool} {L : List α} {k : Nat} (hk : k < L.length) (h : (L.take k).all p = true) (hc : p L[k] = true) : (L.take (k + 1)).all p = true := by
  rw [List.take_succ_eq_append_getElem hk, List.all_append, h]; simp [hc]
theorem all_stop {α : Type} {p : α → Bool} {L : List α} {k : Nat} (hk : k < L.length) (hc : p L[k] = false) : L.all p = false := by
  rw [List.all_eq_false]
  exact ⟨L[k], List.getElem_mem hk, by rw [hc]; decide⟩
@[irreducible] def namN (c : Nat) : Bool := letN c || (decide (48 ≤ c) && decide (c ≤ 57)) || c == 95 || c == 45 || c == 47
def namAll (L : List UInt8) : Bool := L.all (fun c => namN c.toNat)
@[irreducible] def namE (L : List UInt8) : Int := if 1 ≤ L.length ∧ L.length ≤ 32 ∧ namAll L = true then 0 else 2
theorem nam_cases (c : Nat) : (letN c = true ∧ namN c = true) ∨ (letN c = false ∧ ((c = 95 ∨ c = 45 ∨ c = 47 ∨ (48 ≤ c ∧ c ≤ 57)) ∧ namN c = true)) ∨ (letN c = false ∧ ((c < 48 ∧ c ≠ 45 ∧ c ≠ 47) ∨ (57 < c ∧ c ≠ 95)) ∧ namN c = false) := by
  unfold namN
  cases hl : letN c
  · by_cases h : (c = 95 ∨ c = 45 ∨ c = 47 ∨ (48 ≤ c ∧ c ≤ 57))
    · right; left; refine ⟨rfl, h, ?_⟩; simp; omega
    · right; right; refine ⟨rfl, by omega, ?_⟩; simp; omega
  · left; exact ⟨rfl, rfl⟩
end Go.Proofs.YteinjdmkmfeniaaGreatDoor
namespace Go.Proofs.YteinjdmkmfeniaaGreatDoor
set_option linter.unusedVariables false
set_option linter.unusedSimpArgs false
open Go.ChangeShapes Go.WideShapes Go.ChangeAt Go.RowKit
def dgt (p : Int) : UInt8 := UInt8.ofNat (48 + p).toNat
theorem dgt_nat {p : Int} (h0 : 0 ≤ p) (h9 : p ≤ 9) : (dgt p).toNat = 48 + p.toNat := by
  unfold dgt
  rw [UInt8.toNat_ofNat']
  omega
def twoL (n : Int) : List UInt8 := [dgt (n / 10 % 10), dgt (n % 10)]
theorem conv_two (w : World) (p q : Int) (p0 : 0 ≤ p) (p9 : p ≤ 9) (q0 : 0 ≤ q) (q9 : q ≤ 9) :
    (convert 65 9 (.slice (some ⟨w.heap.size, 0, none⟩) 2 2)).run Tryz.prog (w.alloc (.cells #[.int .u8 (48 + p), .int .u8 (48 + q)] 5)) = .ok (.string (bs [dgt p, dgt q])) (w.alloc (.cells #[.int .u8 (48 + p), .int .u8 (48 + q)] 5)) := by
  have h := run_convert_bytes_back (P := Tryz.prog) (w.alloc (.cells #[.int .u8 (48 + p), .int .u8 (48 + q)] 5)) 65 9 5 ⟨w.heap.size, 0, none⟩ 2 [dgt p, dgt q] Tryz.underlying65 Tryz.underlying5 Tryz.underlying9 (fun j hj => by
    have hadd : (⟨w.heap.size, 0, none⟩ : Addr).add j = ⟨w.heap.size, j, none⟩ := by unfold Addr.add; split <;> simp_all
    rw [hadd, cell_of_row _ _ _ _ _ _ (heap_alloc_new w _)]
    match j, hj with
    | 0, _ => simp [dgt_nat p0 p9]; omega
    | 1, _ => simp [dgt_nat q0 q9]; omega)
  rw [show (bs [dgt p, dgt q]) = ⟨[dgt p, dgt q].toArray⟩ by unfold bs; rfl]
  exact h
def timL (n : Int) : List UInt8 := twoL (n / 3600) ++ [58] ++ twoL (n / 60 % 60) ++ (if n % 60 = 0 then [] else [58] ++ twoL (n % 60))
theorem bs_colon : (⟨#[58]⟩ : ByteArray) = bs [58] := by unfold bs; rfl
theorem timL_len (n : Int) : (timL n).length ≤ 8 := by unfold timL; split <;> simp [twoL]
def offL (n : Int) : List UInt8 := if n < -64800 ∨ 64800 < n then [] else if n < 0 then 45 :: timL (-n) else 43 :: timL n
def offX (n : Int) : Int := if n < -64800 ∨ 64800 < n then 8 else 0
theorem bs_minus (T : List UInt8) : (⟨#[45]⟩ : ByteArray) ++ bs T = bs (45 :: T) := by rw [show (⟨#[45]⟩ : ByteArray) = bs [45] by unfold bs; rfl, append_bs]; rfl
theorem bs_plus (T : List UInt8) : (⟨#[43]⟩ : ByteArray) ++ bs T = bs (43 :: T) := by rw [show (⟨#[43]⟩ : ByteArray) = bs [43] by unfold bs; rfl, append_bs]; rfl
end Go.Proofs.YteinjdmkmfeniaaGreatDoor
namespace Go.Proofs.YteinjdmkmfeniaaGreatDoor
set_option linter.unusedVariables false
set_option linter.unusedSimpArgs false
open Go.ChangeShapes Go.WideShapes Go.ChangeAt Go.RowKit
def wkS (k : Int) : List UInt8 :=
  if k = 1 then [109, 111, 110] else if k = 2 then [116, 117, 101] else if k = 3 then [119, 101, 100] else if k = 4 then [116, 104, 117] else if k = 5 then [102, 114, 105] else if k = 6 then [115, 97, 116] else if k = 7 then [115, 117, 110] else []
@[irreducible] def wkdI (t : List UInt8) : Int :=
  if t = [109, 111, 110] then 1 else if t = [116, 117, 101] then 2 else if t = [119, 101, 100] then 3 else if t = [116, 104, 117] then 4 else if t = [102, 114, 105] then 5 else if t = [115, 97, 116] then 6 else if t = [115, 117, 110] then 7 else 0
theorem wkd_1 : wkdI [109, 111, 110] = 1 := by unfold wkdI; rfl
theorem wkd_2 : wkdI [116, 117, 101] = 2 := by unfold wkdI; rfl
theorem wkd_3 : wkdI [119, 101, 100] = 3 := by unfold wkdI; rfl
theorem wkd_4 : wkdI [116, 104, 117] = 4 := by unfold wkdI; rfl
theorem wkd_5 : wkdI [102, 114, 105] = 5 := by unfold wkdI; rfl
theorem wkd_6 : wkdI [115, 97, 116] = 6 := by unfold wkdI; rfl
theorem wkd_7 : wkdI [115, 117, 110] = 7 := by unfold wkdI; rfl
theorem wkd_none {t : List UInt8} (h1 : t ≠ [109, 111, 110]) (h2 : t ≠ [116, 117, 101]) (h3 : t ≠ [119, 101, 100]) (h4 : t ≠ [116, 104, 117]) (h5 : t ≠ [102, 114, 105]) (h6 : t ≠ [115, 97, 116]) (h7 : t ≠ [115, 117, 110]) : wkdI t = 0 := by
  unfold wkdI
  rw [if_neg h1, if_neg h2, if_neg h3, if_neg h4, if_neg h5, if_neg h6, if_neg h7]
theorem wkd_bd (t : List UInt8) : 0 ≤ wkdI t ∧ wkdI t ≤ 7 := by
  unfold wkdI
  repeat' split
  all_goals decide
theorem wkS_len (k : Int) (h1 : 1 ≤ k) (h7 : k ≤ 7) : (wkS k).length = 3 := by
  rcases (by omega : k = 1 ∨ k = 2 ∨ k = 3 ∨ k = 4 ∨ k = 5 ∨ k = 6 ∨ k = 7) with rfl | rfl | rfl | rfl | rfl | rfl | rfl <;> rfl
theorem wkd_some {t : List UInt8} (h : wkdI t ≠ 0) : t = wkS (wkdI t) := by
  by_cases h1 : t = [109, 111, 110]
  · subst h1; rw [wkd_1]; rfl
  by_cases h2 : t = [116, 117, 101]
  · subst h2; rw [wkd_2]; rfl
  by_cases h3 : t = [119, 101, 100]
  · subst h3; rw [wkd_3]; rfl
  by_cases h4 : t = [116, 104, 117]
  · subst h4; rw [wkd_4]; rfl
  by_cases h5 : t = [102, 114, 105]
  · subst h5; rw [wkd_5]; rfl
  by_cases h6 : t = [115, 97, 116]
  · subst h6; rw [wkd_6]; rfl
  by_cases h7 : t = [115, 117, 110]
  · subst h7; rw [wkd_7]; rfl
  exact absurd (wkd_none h1 h2 h3 h4 h5 h6 h7) h
theorem bs_lit (l : List UInt8) (a : Array UInt8) (h : a.toList = l) : (⟨a⟩ : ByteArray) = bs l := by subst h; unfold bs; simp
end Go.Proofs.YteinjdmkmfeniaaGreatDoor
namespace Go.Proofs.YteinjdmkmfeniaaGreatDoor
set_option linter.unusedVariables false
set_option linter.unusedSimpArgs false
open Go.ChangeShapes Go.WideShapes Go.ChangeAt Go.RowKit
def lastL : List UInt8 := [108, 97, 115, 116, 45]
@[irreducible] def dayR (t : List UInt8) : Int × Int × Int × Int :=
  if 5 ≤ t.length ∧ t.take 5 = lastL then (if wkdI (t.drop 5) = 0 then (0, 0, 0, 2) else (1, 0, wkdI (t.drop 5), 0))
  else if 5 < t.length ∧ 0 < wkdI (t.take 3) then
    (if (t.take 5).drop 3 = [62, 61] then (if numE (t.drop 5) 1 31 = 0 then (2, numV (t.drop 5) 1 31, wkdI (t.take 3), 0) else (0, 0, 0, numE (t.drop 5) 1 31))
     else if (t.take 5).drop 3 = [60, 61] then (if numE (t.drop 5) 1 31 = 0 then (3, numV (t.drop 5) 1 31, wkdI (t.take 3), 0) else (0, 0, 0, numE (t.drop 5) 1 31))
     else (0, 0, 0, 2))
  else if numE t 1 31 = 0 then (0, numV t 1 31, 0, 0) else (0, 0, 0, numE t 1 31)
theorem day_last0 {t : List UInt8} (h : 5 ≤ t.length) (h2 : t.take 5 = lastL) (h3 : wkdI (t.drop 5) = 0) : dayR t = (0, 0, 0, 2) := by
  unfold dayR; rw [if_pos ⟨h, h2⟩]; exact if_pos h3
theorem day_last {t : List UInt8} (h : 5 ≤ t.length) (h2 : t.take 5 = lastL) (h3 : wkdI (t.drop 5) ≠ 0) : dayR t = (1, 0, wkdI (t.drop 5), 0) := by
  unfold dayR; rw [if_pos ⟨h, h2⟩]; exact if_neg h3
theorem day_from {t : List UInt8} (h2 : t.take 5 ≠ lastL) (h3 : 5 < t.length) (h4 : 0 < wkdI (t.take 3)) (h5 : (t.take 5).drop 3 = [62, 61]) : dayR t = (if numE (t.drop 5) 1 31 = 0 then (2, numV (t.drop 5) 1 31, wkdI (t.take 3), 0) else (0, 0, 0, numE (t.drop 5) 1 31)) := by
  unfold dayR; rw [if_neg (fun h => h2 h.2), if_pos ⟨h3, h4⟩]; exact if_pos h5
theorem day_before {t : List UInt8} (h2 : t.take 5 ≠ lastL) (h3 : 5 < t.length) (h4 : 0 < wkdI (t.take 3)) (h5 : (t.take 5).drop 3 = [60, 61]) : dayR t = (if numE (t.drop 5) 1 31 = 0 then (3, numV (t.drop 5) 1 31, wkdI (t.take 3), 0) else (0, 0, 0, numE (t.drop 5) 1 31)) := by
  unfold dayR; rw [if_neg (fun h => h2 h.2), if_pos ⟨h3, h4⟩, if_neg (by rw [h5]; decide)]; exact if_pos h5
theorem day_odd {t : List UInt8} (h2 : t.take 5 ≠ lastL) (h3 : 5 < t.length) (h4 : 0 < wkdI (t.take 3)) (h5 : (t.take 5).drop 3 ≠ [62, 61]) (h6 : (t.take 5).drop 3 ≠ [60, 61]) : dayR t = (0, 0, 0, 2) := by
  unfold dayR; rw [if_neg (fun h => h2 h.2), if_pos ⟨h3, h4⟩, if_neg h5]; exact if_neg h6
theorem day_date {t : List UInt8} (h : ¬ (5 ≤ t.length ∧ t.take 5 = lastL)) (h2 : ¬ (5 < t.length ∧ 0 < wkdI (t.take 3))) : dayR t = (if numE t 1 31 = 0 then (0, numV t 1 31, 0, 0) else (0, 0, 0, numE t 1 31)) := by
  unfold dayR; rw [if_neg h]; exact if_neg h2
end Go.Proofs.YteinjdmkmfeniaaGreatDoor
namespace Go.Proofs.YteinjdmkmfeniaaGreatDoor
set_option linter.unusedVariables false
set_option linter.unusedSimpArgs false
theorem dgB_dgt {p : Int} (h0 : 0 ≤ p) (h9 : p ≤ 9) : dgB (dgt p) = true := by rw [dgB_iff, dgt_nat h0 h9]; omega
theorem dgV_two {k : Int} (h0 : 0 ≤ k) (h1 : k ≤ 99) : dgV (twoL k) = k := by
  have a := dgB_dgt (p := k / 10 % 10) (by omega) (by omega)
  have b := dgB_dgt (p := k % 10) (by omega) (by omega)
  have c := dgt_nat (p := k / 10 % 10) (by omega) (by omega)
  have d := dgt_nat (p := k % 10) (by omega) (by omega)
  rw [dgV_ok (by unfold twoL; simp [a, b])]
  unfold dval twoL
  simp only [List.foldl_cons, List.foldl_nil, c, d]
  omega
theorem hms_tim {n : Int} (h0 : 0 ≤ n) (h1 : n ≤ 64800) : hmsV (timL n) = n := by
  have e1 := dgV_two (k := n / 3600) (by omega) (by omega)
  have e2 := dgV_two (k := n / 60 % 60) (by omega) (by omega)
  have e3 := dgV_two (k := n % 60) (by omega) (by omega)
  by_cases hs : n % 60 = 0
  · have e : timL n = twoL (n / 3600) ++ [58] ++ twoL (n / 60 % 60) := by unfold timL; rw [if_pos hs, List.append_nil]
    have s1 : sub (timL n) 0 2 = twoL (n / 3600) := by rw [e]; rfl
    have s2 : sub (timL n) 3 2 = twoL (n / 60 % 60) := by rw [e]; rfl
    have hl : (timL n).length = 5 := by rw [e]; rfl
    have hx := hmX_5 hl
    have hF : hmF (timL n) = true := by unfold hmF; rw [e]; rfl
    rw [hms_ok hF (by rw [s1, s2, hx, e1, e2]; exact hmO_ok (by omega) (by omega) (by omega) (by omega) (by omega)), s1, s2, hx, e1, e2]
    omega
  · have e : timL n = twoL (n / 3600) ++ [58] ++ twoL (n / 60 % 60) ++ ([58] ++ twoL (n % 60)) := by unfold timL; rw [if_neg hs]
    have s1 : sub (timL n) 0 2 = twoL (n / 3600) := by rw [e]; rfl
    have s2 : sub (timL n) 3 2 = twoL (n / 60 % 60) := by rw [e]; rfl
    have s3 : sub (timL n) 6 2 = twoL (n % 60) := by rw [e]; rfl
    have hl : (timL n).length = 8 := by rw [e]; rfl
    have hx := hmX_8 hl
    rw [s3, e3] at hx
    have hF : hmF (timL n) = true := by unfold hmF; rw [e]; rfl
    rw [hms_ok hF (by rw [s1, s2, hx, e1, e2]; exact hmO_ok (by omega) (by omega) (by omega) (by omega) (by omega)), s1, s2, hx, e1, e2]
    omega
theorem off_back {n : Int} (h : offX n = 0) : offE (offL n) = 0 ∧ offV (offL n) = n ∧ (offL n).length ≤ 9 := by
  have hn : ¬ (n < -64800 ∨ 64800 < n) := by
    intro hh; unfold offX at h; rw [if_pos hh] at h; cases h
  unfold offL
  rw [if_neg hn]
  by_cases hneg : n < 0
  · rw [if_pos hneg]
    have t := hms_tim (n := -n) (by omega) (by omega)
    have hd : hd0 (45 :: timL (-n)) = 45 := rfl
    have hr : List.drop 1 (45 :: timL (-n)) = timL (-n) := rfl
    have F := off_ok (L := 45 :: timL (-n)) (by rw [hd]; decide) (by rw [hr, t]; omega) (by rw [hr, t]; omega)
    rw [hr, t, hd, if_pos rfl] at F
    have := timL_len (-n)
    exact ⟨F.1, by rw [F.2]; omega, by simp; omega⟩
  · rw [if_neg hneg]
    have t := hms_tim (n := n) (by omega) (by omega)
    have hd : hd0 (43 :: timL n) = 43 := rfl
    have hr : List.drop 1 (43 :: timL n) = timL n := rfl
    have F := off_ok (L := 43 :: timL n) (by rw [hd]; decide) (by rw [hr, t, hd]; omega) (by rw [hr, t]; omega)
    rw [hr, t, hd, if_neg (by decide)] at F
    have := timL_len n
    exact ⟨F.1, F.2, by simp; omega⟩
def nmL (n : Int) : List UInt8 := if 10 ≤ n then [dgt (n / 10), dgt (n % 10)] else [dgt (n % 10)]
theorem wk_fin : ∀ w : Fin 7, ∀ n : Fin 31, dayR (wkS ((w.val : Int) + 1) ++ [62, 61] ++ nmL ((n.val : Int) + 1)) = (2, (n.val : Int) + 1, (w.val : Int) + 1, 0) ∧ dayR (wkS ((w.val : Int) + 1) ++ [60, 61] ++ nmL ((n.val : Int) + 1)) = (3, (n.val : Int) + 1, (w.val : Int) + 1, 0) := by decide +kernel
theorem nm_fin : ∀ n : Fin 31, dayR (nmL ((n.val : Int) + 1)) = (0, (n.val : Int) + 1, 0, 0) := by decide +kernel
theorem last_fin : ∀ w : Fin 7, dayR (lastL ++ wkS ((w.val : Int) + 1)) = (1, 0, (w.val : Int) + 1, 0) := by decide +kernel
theorem wk_days {w n : Int} (w1 : 1 ≤ w) (w7 : w ≤ 7) (n1 : 1 ≤ n) (n31 : n ≤ 31) : dayR (lastL ++ wkS w) = (1, 0, w, 0) ∧ dayR (wkS w ++ [62, 61] ++ nmL n) = (2, n, w, 0) ∧ dayR (wkS w ++ [60, 61] ++ nmL n) = (3, n, w, 0) ∧ dayR (nmL n) = (0, n, 0, 0) := by
  have ew : (((⟨(w - 1).toNat, by omega⟩ : Fin 7).val : Nat) : Int) + 1 = w := by simp; omega
  have en : (((⟨(n - 1).toNat, by omega⟩ : Fin 31).val : Nat) : Int) + 1 = n := by simp; omega
  have a := wk_fin ⟨(w - 1).toNat, by omega⟩ ⟨(n - 1).toNat, by omega⟩
  have b := nm_fin ⟨(n - 1).toNat, by omega⟩
  have c := last_fin ⟨(w - 1).toNat, by omega⟩
  rw [ew, en] at a
  rw [en] at b
  rw [ew] at c
  exact ⟨c, a.1, a.2, b⟩
end Go.Proofs.YteinjdmkmfeniaaGreatDoor
namespace Go.Proofs.YteinjdmkmfeniaaGreatDoor
set_option linter.unusedVariables false
set_option linter.unusedSimpArgs false
open Go.ChangeShapes Go.WideShapes Go.ChangeAt Go.RowKit
def momF (t : List UInt8) : Bool := decide (t.length = 19) && ((t.getD 4 0).toNat == 45) && ((t.getD 7 0).toNat == 45) && ((t.getD 10 0).toNat == 84) && ((t.getD 13 0).toNat == 58) && ((t.getD 16 0).toNat == 58)
def yrS (neg : Bool) (y : Int) : Int := if neg = true then -y else y
@[irreducible] def momS (neg : Bool) (y m d h i s : Int) : Int × Int :=
  if y < 0 ∨ m < 0 ∨ d < 0 ∨ h < 0 ∨ i < 0 ∨ s < 0 then (0, 2) else if neg = true ∧ y = 0 then (0, 2) else (seT (yrS neg y) m d h i s 0, ckT (yrS neg y) m d h i s 0)
@[irreducible] def momR (L : List UInt8) : Int × Int :=
  if momF (bodyN L) = true then momS (negB L) (dgV (sub (bodyN L) 0 4)) (dgV (sub (bodyN L) 5 2)) (dgV (sub (bodyN L) 8 2)) (dgV (sub (bodyN L) 11 2)) (dgV (sub (bodyN L) 14 2)) (dgV (sub (bodyN L) 17 2)) else (0, 2)
theorem mom_no {L : List UInt8} (h : momF (bodyN L) = false) : momR L = (0, 2) := by unfold momR; exact if_neg (by rw [h]; decide)
theorem mom_ok {L : List UInt8} (h : momF (bodyN L) = true) : momR L = momS (negB L) (dgV (sub (bodyN L) 0 4)) (dgV (sub (bodyN L) 5 2)) (dgV (sub (bodyN L) 8 2)) (dgV (sub (bodyN L) 11 2)) (dgV (sub (bodyN L) 14 2)) (dgV (sub (bodyN L) 17 2)) := by unfold momR; exact if_pos h
theorem momF_all {t : List UInt8} {a b c d e : Nat} (h : t.length = 19) (ha : (t[4]'(by omega)).toNat = a) (hb : (t[7]'(by omega)).toNat = b) (hc : (t[10]'(by omega)).toNat = c) (hd : (t[13]'(by omega)).toNat = d) (he : (t[16]'(by omega)).toNat = e) :
    momF t = (a == 45 && b == 45 && c == 84 && d == 58 && e == 58) := by
  unfold momF
  rw [getD_of (by omega) ha, getD_of (by omega) hb, getD_of (by omega) hc, getD_of (by omega) hd, getD_of (by omega) he, decide_eq_true h]
  simp [Bool.and_assoc]
theorem momS_odd {neg : Bool} {y m d h i s : Int} (hh : y < 0 ∨ m < 0 ∨ d < 0 ∨ h < 0 ∨ i < 0 ∨ s < 0) : momS neg y m d h i s = (0, 2) := by unfold momS; exact if_pos hh
theorem momS_zero {m d h i s : Int} (hh : ¬ ((0 : Int) < 0 ∨ m < 0 ∨ d < 0 ∨ h < 0 ∨ i < 0 ∨ s < 0)) : momS true 0 m d h i s = (0, 2) := by unfold momS; rw [if_neg hh]; exact if_pos ⟨rfl, rfl⟩
theorem momS_neg {y m d h i s : Int} (hh : ¬ (y < 0 ∨ m < 0 ∨ d < 0 ∨ h < 0 ∨ i < 0 ∨ s < 0)) (hy : y ≠ 0) : momS true y m d h i s = (seT (-y) m d h i s 0, ckT (-y) m d h i s 0) := by unfold momS; rw [if_neg hh, if_neg (fun h => hy h.2)]; rfl
theorem momS_pos {y m d h i s : Int} (hh : ¬ (y < 0 ∨ m < 0 ∨ d < 0 ∨ h < 0 ∨ i < 0 ∨ s < 0)) : momS false y m d h i s = (seT y m d h i s 0, ckT y m d h i s 0) := by unfold momS; rw [if_neg hh]; rfl
end Go.Proofs.YteinjdmkmfeniaaGreatDoor
