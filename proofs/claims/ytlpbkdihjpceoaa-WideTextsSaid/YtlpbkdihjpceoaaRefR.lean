/- Facts for the plain answer's Parse. -/
import Derived.Test.YtlpbkdihjpceoaaRefQ
import Derived.Test.YtlpbkdihjpceoaaInstB
import Derived.Lib.IndexBytes
import Derived.Test.YtlpbkdihjpceoaaShut
namespace Go.Proofs.Ytlpbkdihjpceoaa
set_option linter.unusedVariables false
set_option linter.unusedSimpArgs false
open Go.ChangeShapes Go.WideShapes Go.ChangeAt Go.RowKit

theorem isNeg_head (s : ByteArray) : isNeg s.data.toList = true ↔ ∃ h : 0 < s.size, s[0].toNat = 45 := by
  constructor
  · intro h
    have e := minus_of h
    have hp : 0 < s.size := by rw [Lib.size_eq, e]; simp
    refine ⟨hp, ?_⟩
    have h0 : s.data.toList[0]? = some 45 := by rw [e]; rfl
    have h1 : s.data.toList[0]? = some (s[0]'hp) := by rw [List.getElem?_eq_getElem (by rw [← Lib.size_eq]; exact hp)]; rfl
    rw [h1] at h0
    rw [Option.some.inj h0]; rfl
  · rintro ⟨h, e⟩
    have h1 : s.data.toList[0]? = some (s[0]'h) := by rw [List.getElem?_eq_getElem (by rw [← Lib.size_eq]; exact h)]; rfl
    have e2 : s[0]'h = 45 := UInt8.toNat_inj.1 e
    unfold isNeg Lib.hasPrefix
    cases hl : s.data.toList with
    | nil => rw [hl] at h1; cases h1
    | cons c r =>
      rw [hl] at h1
      have : c = 45 := by rw [← e2]; exact Option.some.inj h1
      subst this
      simp [List.isPrefixOf]
theorem body_slice (s : ByteArray) (h : isNeg s.data.toList = true) : s.extract 1 s.size = ⟨(body s.data.toList).toArray⟩ := by
  have e := minus_of h
  have h2 : s.size = s.data.toList.length := Lib.size_eq s
  have h3 : (s.extract 1 s.size).data.toList = body s.data.toList := by
    rw [Lib.extract_to_end]
    generalize s.data.toList = L at *
    rw [e]
    simp [(body_minus (body L)).2]
  rw [← h3]
theorem body_same (s : ByteArray) (h : isNeg s.data.toList = false) : s = ⟨(body s.data.toList).toArray⟩ := by
  rw [body_none h]

theorem getD_at (t : ByteArray) (i : Nat) (h : i < t.size) : t.data.toList.getD i 0 = t[i] := by
  have h2 : i < t.data.toList.length := by rw [← Lib.size_eq]; exact h
  simp only [List.getD, List.getElem?_eq_getElem h2, Option.getD_some]; rfl
/-- what is asked ahead of the digits. -/
def form7 (B : List UInt8) (m : Bool) : Bool := B.isEmpty || (B.head? == some 48 && (decide (1 < B.length) || m))
theorem form7_bad {s : List UInt8} (h : form7 (body s) (isNeg s) = true) : badForm s = true := by
  unfold form7 at h
  unfold badForm plainB
  cases hb : body s with
  | nil => simp
  | cons c r =>
    rw [hb] at h
    cases r with
    | nil =>
      simp at h
      simp [h]
    | cons d r =>
      simp at h
      simp [h]
theorem form7_good {s : List UInt8} (h : form7 (body s) (isNeg s) = false) (ha : (body s).all isd = true) : badForm s = false := by
  unfold form7 at h
  unfold badForm plainB
  rw [ha]
  cases hb : body s with
  | nil => rw [hb] at h; simp at h
  | cons c r =>
    rw [hb] at h
    cases r with
    | nil =>
      simp at h
      simp
      intro h1 h2
      rw [h h2] at h1
      cases h1
    | cons d r =>
      simp at h
      simp [h]
theorem not_all_bad {s : List UInt8} (h : (body s).all isd = false) : badForm s = true := by
  unfold badForm plainB
  rw [h]; simp
theorem bad_res {s : List UInt8} (hs : s.length ≤ 64) (h : badForm s = true) : pErr s = 2 ∧ pNum s = 0 := by
  have e : pErr s = 2 := by unfold pErr; rw [if_neg (by omega), if_pos h]
  exact ⟨e, by unfold pNum; rw [if_neg (by rw [e]; decide)]⟩
theorem out_res {s : List UInt8} (hs : s.length ≤ 64) (h : badForm s = false) (ho : outOf s = true) : pErr s = 8 ∧ pNum s = 0 := by
  have e : pErr s = 8 := by rw [pErr_of (by omega) h, if_pos ho]
  exact ⟨e, by unfold pNum; rw [if_neg (by rw [e]; decide)]⟩
theorem ok_res {s : List UInt8} (hs : s.length ≤ 64) (h : badForm s = false) (ho : outOf s = false) : pErr s = 0 ∧ pNum s = if isNeg s then 340282366920938463463374607431768211456 - val10 (body s) else val10 (body s) := by
  have e : pErr s = 0 := by rw [pErr_of (by omega) h, if_neg (by rw [ho]; decide)]
  exact ⟨e, by unfold pNum; rw [if_pos e]⟩
theorem good_plain {s : List UInt8} (h : badForm s = false) : plainB (body s) = true := by
  unfold badForm at h
  cases hp : plainB (body s)
  · rw [hp] at h; cases h
  · rfl
theorem long_val {B : List UInt8} (hp : plainB B = true) (hl : 39 < B.length) : 170141183460469231731687303715884105728 < val10 B := by
  rcases Nat.lt_or_ge 170141183460469231731687303715884105728 (val10 B) with h | h
  · exact h
  · have h1 := dg_back B _ rfl hp
    have h2 := dg_len (val10 B) 38 (by omega)
    rw [h1] at h2
    omega
theorem long_out {s : List UInt8} (hp : plainB (body s) = true) (hl : 39 < (body s).length) : outOf s = true := by
  have h := long_val hp hl
  unfold outOf
  split <;> exact decide_eq_true (by omega)
structure Pst (s x y : Nat) (w wr : World) : Prop where
  z : wr.heap[s]? = some (.cells #[.int .u64 0, .int .u64 0] 24 (0, 0))
  x : wr.heap[s + 1]? = some (.cells #[.int .u64 x, .int .u64 y] 24 (0, 0))
  b : Below s w wr
theorem Pst.below {s x y : Nat} {w wr w1 : World} (t : Pst s x y w wr) (hb : Below wr.heap.size wr w1) : Pst s x y w w1 :=
  ⟨row_call hb t.z, row_call hb t.x, t.b.trans (hb.mono (by have := lt_of_heap t.z; omega))⟩
theorem Pst.setX {s x y : Nat} {w wr : World} (t : Pst s x y w wr) (p q : Nat) : Pst s p q w ((wr.setCell ⟨s + 1, 0, none⟩ (.int .u64 p)).setCell ⟨s + 1, 1, none⟩ (.int .u64 q)) :=
  ⟨row_other (by omega) t.z _ _, row_set t.x _ _, (t.b.setCell (by show s ≤ s + 1; omega) _).setCell (by show s ≤ s + 1; omega) _⟩
/-- what the loop keeps: exact as long as nothing ran over. -/
def PInv (t : List UInt8) (i x y : Nat) (o : Bool) : Prop := U x ∧ U y ∧ (o = false → num x y = val10 (t.take i)) ∧ (o = true → 340282366920938463463374607431768211456 ≤ val10 (t.take i))
theorem PInv.step {t : List UInt8} {i x y d : Nat} {o hz bA bB : Bool} (h : PInv t i x y o) (hd : d < 10) (hs : val10 (t.take (i + 1)) = val10 (t.take i) * 10 + d) (B : Nat)
    (h1 : hi B = hi (num x y * 10 + d)) (h2 : lo B = lo (num x y * 10 + d)) (h3 : (hz && (!bA && !bB)) = decide (num x y * 10 + d < 340282366920938463463374607431768211456)) :
    PInv t (i + 1) (hi B) (lo B) (o || (!hz || (bA || bB))) := by
  obtain ⟨u, v, e1, e2⟩ := h
  refine ⟨hi_U _, lo_U _, ?_, ?_⟩
  · intro hf
    cases o
    · rw [hs, ← e1 rfl]
      have : (hz && (!bA && !bB)) = true := by revert hf; cases hz <;> cases bA <;> cases bB <;> simp
      rw [this] at h3
      rw [h1, h2]
      exact num_hl_of (of_decide_eq_true h3.symm)
    · cases hf
  · intro hf
    rw [hs]
    cases o
    · have : (hz && (!bA && !bB)) = false := by revert hf; cases hz <;> cases bA <;> cases bB <;> simp
      rw [this] at h3
      have := of_decide_eq_false h3.symm
      rw [← e1 rfl]; omega
    · have := e2 rfl; omega
end Go.Proofs.Ytlpbkdihjpceoaa
