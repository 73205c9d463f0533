/- Contract of package wide: whether a text is plain digits. -/
import Derived.Test.YtlpbkdihjpceoaaParseA
import Derived.Lib.ConvBytes
import Derived.Lib.Strings
namespace Go.Proofs.Ytlpbkdihjpceoaa
set_option linter.unusedVariables false
open Go.ChangeShapes Go.WideShapes Go.ChangeAt Go.RowKit

def isd (c : UInt8) : Bool := decide (48 ≤ c.toNat) && decide (c.toNat ≤ 57)
def plainB (t : List UInt8) : Bool := !(t.isEmpty || (t.head? == some 48 && decide (1 < t.length))) && t.all isd
theorem below_bytes (w : World) (e : TypeId) (s : ByteArray) : Below w.heap.size w (Lib.bytesWorld w e s) :=
  ⟨rfl, rfl, rfl, by rw [Lib.bytesWorld_size]; omega, fun k hk => Lib.bytesWorld_at_old w e s k hk⟩

theorem all_take_succ (L : List UInt8) (i : Nat) (h : i < L.length) : (L.take (i + 1)).all isd = ((L.take i).all isd && isd (L.getD i 0)) := by
  rw [List.take_succ_eq_append_getElem h, List.all_append]
  simp [List.getD, List.getElem?_eq_getElem h]
theorem all_of_not (L : List UInt8) (i : Nat) (h : i < L.length) (hn : isd (L.getD i 0) = false) : L.all isd = false := by
  rw [List.all_eq_false]
  refine ⟨L[i], List.getElem_mem h, ?_⟩
  simp [List.getD, List.getElem?_eq_getElem h] at hn
  simp [hn]
/-- what is asked ahead of the digits. -/
def headB (t : List UInt8) : Bool := t.isEmpty || (t.head? == some 48 && decide (1 < t.length))

set_option maxHeartbeats 800000 in
set_option maxRecDepth 100000 in
theorem plain_any (s : ByteArray) (hs : s.size ≤ 64) (w : World) :
    Calls Try.prog 34 #[.string s] w fun e w' => e = .returned (.bool (plainB s.data.toList)) ∧ Below w.heap.size w w' := by
  have hcv := fun W => Lib.run_convert_string_bytes (P := Try.prog) W 9 65 5 s Try.underlying9 Try.underlying65 Try.underlying5
  have hn : s.size = s.data.toList.length := Lib.size_eq s
  have hP : plainB s.data.toList = (!headB s.data.toList && s.data.toList.all isd) := rfl
  by_cases he : s.data.toList = []
  · have h1 : s.toList = [] := by rw [ByteArray.toList_eq]; exact he
    have HP : Hid (plainB s.data.toList = false) := by rw [he]; rfl
    clear hn he hP
    go_enter Try.func34, Try.ntmps34
    go_wp2
    go_ret
    exact ⟨by rw [HP.out]; rfl, Below.refl _ _⟩
  · have h1 : ¬ (s.toList = []) := by rw [ByteArray.toList_eq]; exact he
    have h2 : s.toList.isEmpty = false := by rw [ByteArray.toList_eq]; cases hl : s.data.toList with | nil => exact absurd hl he | cons _ _ => rfl
    have hpos : 0 < s.size := by rw [hn]; exact List.length_pos_iff.2 he
    have hs0 : s.data.toList.head? = some (s[0]'hpos) := by
      rw [List.head?_eq_getElem?, List.getElem?_eq_getElem (by rw [← hn]; exact hpos)]; rfl
    have hh : headB s.data.toList = (((s[0]'hpos).toNat == 48) && decide (1 < s.size)) := by
      unfold headB
      rw [hs0, ← hn, show s.data.toList.isEmpty = false by rw [← ByteArray.toList_eq]; exact h2, Bool.false_or]
      congr 1
      rw [Bool.eq_iff_iff]
      simp only [beq_iff_eq, Option.some.injEq]
      constructor
      · intro h; rw [h]; rfl
      · intro h; exact UInt8.toNat_inj.1 h
    clear hs0 he
    by_cases hB : (s[0]'hpos).toNat = 48 ∧ 1 < s.size
    · have z1 : ((s[0]'hpos).toNat : Int) = 48 := by have := hB.1; omega
      have z2 : (1 : Int) < (s.size : Int) := by have := hB.2; omega
      have HP : Hid (plainB s.data.toList = false) := by show _ = _; rw [hP, hh, hB.1, decide_eq_true hB.2]; rfl
      clear hn hP hh hB
      go_enter Try.func34, Try.ntmps34
      go_wp2
      go_ret
      exact ⟨by rw [HP.out]; rfl, Below.refl _ _⟩
    · have HP : Hid (plainB s.data.toList = s.data.toList.all isd) := by
        show _ = _; rw [hP, hh]
        have : (((s[0]'hpos).toNat == 48) && decide (1 < s.size)) = false := by
          rw [Bool.and_eq_false_iff, beq_eq_false_iff_ne, decide_eq_false_iff_not]
          rcases Nat.lt_or_ge 1 s.size with h | h
          · exact Or.inl (fun h3 => hB ⟨h3, h⟩)
          · exact Or.inr (by omega)
        rw [this]; rfl
      have HN := Lib.hid hn
      clear hn hP hh
      have hcase : (¬ ((s[0]'hpos).toNat : Int) = 48) ∨ (((s[0]'hpos).toNat : Int) = 48 ∧ (s.size : Int) ≤ 1) := by omega
      clear hB
      have hcells : ∀ i, i < s.size → (Lib.bytesWorld w 5 s).cell? ⟨w.heap.size, i, none⟩ = some (.int .u8 ((s.data.toList.getD i 0).toNat : Int)) := fun i hi => Lib.bytesWorld_cell w 5 s i hi
      have HC := Lib.hid hcells
      have HB := Lib.hid (below_bytes w 5 s)
      clear hcells
      rcases hcase with hz | ⟨hz, hz2⟩
      all_goals
        go_enter Try.func34, Try.ntmps34
        go_wp2_with fail
        generalize Lib.bytesWorld w 5 s = W1 at *
        clear hcv
        go_loop [20] (fun x => ∃ i : Nat, i ≤ s.size ∧ x = .int .i64 i ∧ Hid ((s.data.toList.take i).all isd = true)) (fun x => s.size - (intOf x).toNat)
        case atStart => exact ⟨0, by omega, rfl, by simp [Hid]⟩
        case round =>
          obtain ⟨i, hi, rfl, HI⟩ := hrel
          by_cases hlt : i < s.size
          · have hcell := HC.out i hlt
            have hall := all_take_succ s.data.toList i (by rw [← HN.out]; exact hlt)
            have hno := all_of_not s.data.toList i (by rw [← HN.out]; exact hlt)
            have hdef : isd (s.data.toList.getD i 0) = (decide (48 ≤ (s.data.toList.getD i 0).toNat) && decide ((s.data.toList.getD i 0).toNat ≤ 57)) := rfl
            generalize (s.data.toList.getD i 0) = c at *
            have hcb : c.toNat < 256 := UInt8.toNat_lt c
            generalize c.toNat = cn at *
            by_cases d1 : cn < 48
            · have HX : Hid (s.data.toList.all isd = false) := hno (by rw [hdef, decide_eq_false (by omega)]; rfl)
              have t1 : (cn : Int) < 48 := by omega
              clear hall hno hdef d1
              go_wp2
              go_ret
              exact ⟨by rw [HP.out, HX.out]; rfl, HB.out⟩
            · by_cases d2 : 57 < cn
              · have HX : Hid (s.data.toList.all isd = false) := hno (by rw [hdef, decide_eq_false (show ¬ cn ≤ 57 by omega), Bool.and_false])
                have t1 : ¬ (cn : Int) < 48 := by omega
                have t2 : (57 : Int) < (cn : Int) := by omega
                clear hall hno hdef d1 d2
                go_wp2
                go_ret
                exact ⟨by rw [HP.out, HX.out]; rfl, HB.out⟩
              · have HX : Hid ((s.data.toList.take (i + 1)).all isd = true) := by
                  show _ = _; rw [hall, HI.out, hdef, decide_eq_true (show 48 ≤ cn by omega), decide_eq_true (show cn ≤ 57 by omega)]; rfl
                have t1 : ¬ (cn : Int) < 48 := by omega
                have t2 : ¬ (57 : Int) < (cn : Int) := by omega
                clear hall hno hdef d1 d2
                go_wp2
                go_round
                case rel => exact ⟨i + 1, by omega, by go_num, HX⟩
                case measure => simp [intOf]; omega
          · have HX : Hid (s.data.toList.all isd = true) := by
              have h := HI.out
              rw [List.take_of_length_le (by rw [← HN.out]; omega)] at h
              exact h
            go_wp2
            go_ret
            exact ⟨by rw [HP.out, HX.out]; rfl, HB.out⟩
end Go.Proofs.Ytlpbkdihjpceoaa
