/- Contract of package wide: a text as a number. -/
import Derived.Test.YtlpbkdihjpceoaaParseC
import Derived.Test.YtlpbkdihjpceoaaTextB
namespace Go.Proofs.Ytlpbkdihjpceoaa
set_option linter.unusedVariables false
open Go.ChangeShapes Go.WideShapes Go.ChangeAt Go.RowKit

def isNeg (t : List UInt8) : Bool := Lib.hasPrefix t [45]
def body (t : List UInt8) : List UInt8 := Lib.trimPrefix t [45]
/-- the form is none: no plain digits, or a 0 below 0. -/
def badForm (t : List UInt8) : Bool := !plainB (body t) || (isNeg t && decide (body t = [48]))
/-- the amount is too great for its sign. -/
def outOf (t : List UInt8) : Bool := if isNeg t then decide (170141183460469231731687303715884105728 < val10 (body t)) else decide (170141183460469231731687303715884105728 ≤ val10 (body t))
def pErr (t : List UInt8) : Nat := if 64 < t.length then 1 else if badForm t then 2 else if outOf t then 8 else 0
def pNum (t : List UInt8) : Nat := if pErr t = 0 then (if isNeg t then 340282366920938463463374607431768211456 - val10 (body t) else val10 (body t)) else 0
theorem body_len (t : List UInt8) : (body t).length ≤ t.length := by
  unfold body Lib.trimPrefix; split <;> simp
theorem plainB_all {t : List UInt8} (h : plainB t = true) : t.all isd = true := by unfold plainB at h; rw [Bool.and_eq_true] at h; exact h.2
theorem hi_zero : hi 0 = 0 := by unfold hi; rfl
theorem lo_zero : lo 0 = 0 := by unfold lo; rfl
theorem cutPrefix45 (s : ByteArray) (w : World) : Calls Try.prog 33 #[.string s, .string ⟨#[45]⟩] w fun e w' => e = .returned (.tuple #[.string ⟨(body s.data.toList).toArray⟩, .bool (isNeg s.data.toList)]) ∧ w = w' :=
  (Try.strings_CutPrefix s ⟨#[45]⟩ w).mono fun e w' ⟨a, b⟩ => ⟨a, b.symm⟩
theorem plainOf (B : List UInt8) (h : B.length ≤ 64) (w : World) : Calls Try.prog 34 #[.string ⟨B.toArray⟩] w fun e w' => e = .returned (.bool (plainB B)) ∧ Below w.heap.size w w' :=
  plain_any ⟨B.toArray⟩ (by rw [Lib.size_eq]; exact h) w
theorem unsignedOf (B : List UInt8) (h : B.length ≤ 64) (hd : B.all isd = true) (w : World) : Calls Try.prog 35 #[.string ⟨B.toArray⟩] w fun e w' => e = .returned (.tuple #[.agg #[.int .u64 (hi (uvN B)), .int .u64 (lo (uvN B))], .bool (uvB B)]) ∧ Below w.heap.size w w' :=
  unsigned_any ⟨B.toArray⟩ (by rw [Lib.size_eq]; exact h) hd w

theorem parse_long (s : ByteArray) (hs : 64 < s.size) (w : World) :
    Calls Try.prog 10 #[.string s] w fun e w' => e = .returned (.tuple #[.agg #[.int .u64 (hi (pNum s.data.toList)), .int .u64 (lo (pNum s.data.toList))], .int .i64 (pErr s.data.toList)]) ∧ Below w.heap.size w w' := by
  have E1 : Hid (pErr s.data.toList = 1) := by show _ = _; unfold pErr; rw [if_pos (by rw [← Lib.size_eq]; exact hs)]
  have E2 : Hid (pNum s.data.toList = 0) := by show _ = _; unfold pNum; rw [if_neg (by rw [E1.out]; decide)]
  go_enter Try.func10, Try.ntmps10
  go_wp2
  refine bodyPost_ret (v := .tuple #[.agg #[.int .u64 0, .int .u64 0], .int .i64 1]) (by simp [results, Try.results10, go_sem]) rfl ⟨by rw [E1.out, E2.out, hi_zero, lo_zero]; rfl, ?_⟩
  go_grown

set_option maxHeartbeats 400000 in
set_option maxRecDepth 100000 in
theorem parse_form1 (s : ByteArray) (hs : s.size ≤ 64) (hp : plainB (body s.data.toList) = false) (w : World) :
    Calls Try.prog 10 #[.string s] w fun e w' => e = .returned (.tuple #[.agg #[.int .u64 (hi (pNum s.data.toList)), .int .u64 (lo (pNum s.data.toList))], .int .i64 (pErr s.data.toList)]) ∧ Below w.heap.size w w' := by
  have E1 : Hid (pErr s.data.toList = 2) := by show _ = _; unfold pErr badForm; rw [if_neg (by rw [← Lib.size_eq]; omega), hp, if_pos (by simp)]
  have E2 : Hid (pNum s.data.toList = 0) := by show _ = _; unfold pNum; rw [if_neg (by rw [E1.out]; decide)]
  have HC := Lib.hid (cutPrefix45 s)
  have hB := plainOf (body s.data.toList) (Nat.le_trans (body_len _) (by rw [← Lib.size_eq]; exact hs))
  rw [hp] at hB
  have HB := Lib.hid hB
  clear hB hp
  generalize body s.data.toList = B at *
  generalize isNeg s.data.toList = m at *
  go_enter Try.func10, Try.ntmps10
  go_wp2_with fail
  refine (HC.out _).mono ?_
  rintro e w1 ⟨rfl, rfl⟩
  go_wp2_with fail
  refine (HB.out _).mono ?_
  rintro e w1 ⟨rfl, hb1⟩
  obtain ⟨hc, hf⟩ := bcell hb1
  have hz : w.heap.size < w1.heap.size := by have := hb1.size; simp at this; omega
  have HB1 := Lib.hid (((Below.refl w.heap.size w).alloc (Nat.le_refl _) _).trans (hb1.mono (by simp)))
  clear hb1
  go_simp
  go_wp2
  refine bodyPost_ret (v := .tuple #[.agg #[.int .u64 0, .int .u64 0], .int .i64 2]) (by simp [results, Try.results10, go_sem, hc]) rfl ⟨by rw [E1.out, E2.out, hi_zero, lo_zero]; rfl, ?_⟩
  exact (HB1.out.setCell (Nat.le_refl _) _).setCell (Nat.le_refl _) _

set_option maxHeartbeats 400000 in
set_option maxRecDepth 100000 in
theorem parse_form2 (s : ByteArray) (hs : s.size ≤ 64) (hm : isNeg s.data.toList = true) (h0 : body s.data.toList = [48]) (w : World) :
    Calls Try.prog 10 #[.string s] w fun e w' => e = .returned (.tuple #[.agg #[.int .u64 (hi (pNum s.data.toList)), .int .u64 (lo (pNum s.data.toList))], .int .i64 (pErr s.data.toList)]) ∧ Below w.heap.size w w' := by
  have E1 : Hid (pErr s.data.toList = 2) := by show _ = _; unfold pErr badForm; rw [if_neg (by rw [← Lib.size_eq]; omega), hm, h0, if_pos (by simp)]
  have E2 : Hid (pNum s.data.toList = 0) := by show _ = _; unfold pNum; rw [if_neg (by rw [E1.out]; decide)]
  have hC := cutPrefix45 s
  rw [hm, h0] at hC
  have HC := Lib.hid hC
  have hB := plainOf [48] (by decide)
  rw [show plainB [48] = true from rfl] at hB
  have HB := Lib.hid hB
  clear hB hC hm h0
  go_enter Try.func10, Try.ntmps10
  go_wp2_with fail
  refine (HC.out _).mono ?_
  rintro e w1 ⟨rfl, rfl⟩
  go_wp2_with fail
  refine (HB.out _).mono ?_
  rintro e w1 ⟨rfl, hb1⟩
  obtain ⟨hc, hf⟩ := bcell hb1
  have hz : w.heap.size < w1.heap.size := by have := hb1.size; simp at this; omega
  have HB1 := Lib.hid (((Below.refl w.heap.size w).alloc (Nat.le_refl _) _).trans (hb1.mono (by simp)))
  clear hb1
  go_simp
  go_wp2
  refine bodyPost_ret (v := .tuple #[.agg #[.int .u64 0, .int .u64 0], .int .i64 2]) (by simp [results, Try.results10, go_sem, hc]) rfl ⟨by rw [E1.out, E2.out, hi_zero, lo_zero]; rfl, ?_⟩
  exact (HB1.out.setCell (Nat.le_refl _) _).setCell (Nat.le_refl _) _
end Go.Proofs.Ytlpbkdihjpceoaa
