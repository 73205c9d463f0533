/- Contract of the plain answer's Parse: texts of no form, and long ones. -/
import Derived.Test.YtlpbkdihjpceoaaRefR
namespace Go.Proofs.Ytlpbkdihjpceoaa
set_option linter.unusedVariables false
set_option linter.unusedSimpArgs false
open Go.ChangeShapes Go.WideShapes Go.ChangeAt Go.RowKit

set_option maxHeartbeats 16000000 in
set_option maxRecDepth 100000 in
theorem refParse_bad (s : ByteArray) (hs : s.size ≤ 64) (hx : ¬ (badForm s.data.toList = false ∧ (body s.data.toList).length ≤ 39)) (w : World) :
    Calls Try.prog 11 #[.string s] w fun e w' => e = .returned (.tuple #[.agg #[.int .u64 (hi (pNum s.data.toList)), .int .u64 (lo (pNum s.data.toList))], .int .i64 (pErr s.data.toList)]) ∧ Below w.heap.size w w' := by
  have HXX := Lib.hid hx
  clear hx
  obtain ⟨m, hm⟩ : ∃ m, Hid (isNeg s.data.toList = m) := ⟨_, rfl⟩
  have HN := Lib.hid (isNeg_head s)
  have HB1 := Lib.hid (body_slice s)
  have HB2 := Lib.hid (body_same s)
  have h64 : ¬ (64 : Int) < (s.size : Int) := by omega
  go_enter Try.func11, Try.ntmps11
  refine wp_shut ?_
  go_upto_region 4 with fail
  obtain ⟨W0, hW0⟩ : ∃ W0, W0 = w.alloc (Obj.cells #[Value.int IntKind.u64 0, Value.int IntKind.u64 0] 24) := ⟨_, rfl⟩
  rw [← hW0]
  have HW0 := Lib.hid hW0
  clear hW0
  go_cut [5] (fun s5 wx => s5 = .bool m ∧ wx = W0)
  case first =>
    by_cases h0 : 0 < s.size
    · have hi0 : (0 : Int) < (s.size : Int) := by omega
      by_cases h1 : (s[0]'h0).toNat = 45
      · have e : m = true := hm.out.symm.trans (HN.out.2 ⟨h0, h1⟩)
        subst e
        have h2 : ((s[0]'h0).toNat : Int) = 45 := by omega
        go_wp2_with fail
        go_meet
        exact ⟨rfl, rfl⟩
      · have e : m = false := by
          cases m
          · rfl
          · exact absurd ((HN.out.1 hm.out).2) h1
        subst e
        have h2 : (((s[0]'h0).toNat : Int) == 45) = false := by rw [beq_eq_false_iff_ne]; omega
        go_wp2_with fail
        go_meet
        exact ⟨rfl, rfl⟩
    · have e : m = false := by
        cases m
        · rfl
        · exact absurd ((HN.out.1 hm.out).1) h0
      subst e
      have h2 : s.size = 0 := by omega
      go_wp2_with fail
      go_meet
      exact ⟨rfl, rfl⟩
  case rest =>
    obtain ⟨rfl, ew⟩ := hcut
    replace ew := ew.symm
    subst ew
    go_upto_if 30 with (fail)
    go_cut [4] (fun s4 wx => s4 = .string ⟨(body s.data.toList).toArray⟩ ∧ wx = W0)
    case first =>
      cases m
      · have E := Lib.hid (HB2.out hm.out)
        go_wp2_with fail
        go_meet
        refine ⟨?_, rfl⟩
        show Value.string s = _
        rw [← E.out]
      · have E := Lib.hid (HB1.out hm.out)
        have hp : 0 < s.size := (HN.out.1 hm.out).1
        have hp1 : (1 : Int) ≤ (s.size : Int) := by omega
        go_wp2_with fail
        go_meet
        refine ⟨?_, rfl⟩
        show Value.string _ = _
        rw [← E.out]
    case rest =>
      obtain ⟨rfl, ew⟩ := hcut
      replace ew := ew.symm
      subst ew
      have HF : Hid (form7 (body s.data.toList) m = true → badForm s.data.toList = true) := fun h => form7_bad (by rw [hm.out]; exact h)
      have HG : Hid (form7 (body s.data.toList) m = false → (body s.data.toList).all isd = true → badForm s.data.toList = false) := fun h => form7_good (by rw [hm.out]; exact h)
      have HS : Hid (s.data.toList.length ≤ 64) := by rw [← Lib.size_eq]; exact hs
      obtain ⟨t, ht⟩ : ∃ t : ByteArray, t = ⟨(body s.data.toList).toArray⟩ := ⟨_, rfl⟩
      have HTL : Hid (body s.data.toList = t.data.toList) := by rw [ht]; rfl
      have HTS : Hid (t.size = t.data.toList.length) := Lib.size_eq t
      have hts : t.size ≤ 64 := by rw [HTS.out, ← HTL.out]; exact Nat.le_trans (body_len _) HS.out
      have hts2 : (t.size : Int) ≤ 64 := by omega
      rw [← ht]
      clear ht HN HB1 HB2 h64 hs
      go_upto_region 7 with fail
      go_cut [47] (fun s47 wx => s47 = .bool (form7 t.data.toList m) ∧ wx = W0)
      case first =>
        have hdef : form7 t.data.toList m = (t.data.toList.isEmpty || (t.data.toList.head? == some 48 && (decide (1 < t.size) || m))) := by unfold form7; rw [HTS.out]
        by_cases he : t.data.toList = []
        · have h1 : t.toList = [] := by rw [ByteArray.toList_eq]; exact he
          have E : Hid (form7 t.data.toList m = true) := by show _ = _; rw [hdef, he]; rfl
          clear hdef he
          go_wp2_with fail
          go_meet
          exact ⟨by rw [E.out], rfl⟩
        · have h1 : ¬ (t.toList = []) := by rw [ByteArray.toList_eq]; exact he
          have h2 : t.toList.isEmpty = false := by rw [ByteArray.toList_eq]; cases hl : t.data.toList with | nil => exact absurd hl he | cons _ _ => rfl
          have hpos : 0 < t.size := by rw [HTS.out]; exact List.length_pos_iff.2 he
          have hs0 : t.data.toList.head? = some (t[0]'hpos) := by
            rw [List.head?_eq_getElem?, List.getElem?_eq_getElem (by rw [← HTS.out]; exact hpos)]; rfl
          have hh : form7 t.data.toList m = (((t[0]'hpos).toNat == 48) && (decide (1 < t.size) || m)) := by
            rw [hdef, hs0, show t.data.toList.isEmpty = false by rw [← ByteArray.toList_eq]; exact h2, Bool.false_or]
            congr 1
            rw [Bool.eq_iff_iff]
            simp only [beq_iff_eq, Option.some.injEq]
            constructor
            · intro h; rw [h]; rfl
            · intro h; exact UInt8.toNat_inj.1 h
          clear hdef he hs0
          by_cases hz : (t[0]'hpos).toNat = 48
          · have z1 : (((t[0]'hpos).toNat : Int) == 48) = true := by rw [beq_iff_eq]; omega
            have z1' : ((t[0]'hpos).toNat : Int) = 48 := by omega
            by_cases h1 : 1 < t.size
            · have z2 : (1 : Int) < (t.size : Int) := by omega
              have E : Hid (form7 t.data.toList m = true) := by show _ = _; rw [hh, hz, decide_eq_true h1]; rfl
              clear hh hz
              go_wp2_with fail
              go_meet
              exact ⟨by rw [E.out], rfl⟩
            · have z2 : ¬ (1 : Int) < (t.size : Int) := by omega
              have E : Hid (form7 t.data.toList m = m) := by show _ = _; rw [hh, hz, decide_eq_false h1]; simp
              clear hh hz
              go_wp2_with fail
              go_meet
              exact ⟨by rw [E.out], rfl⟩
          · have z1 : (((t[0]'hpos).toNat : Int) == 48) = false := by rw [beq_eq_false_iff_ne]; omega
            have E : Hid (form7 t.data.toList m = false) := by show _ = _; rw [hh, beq_eq_false_iff_ne.2 hz]; rfl
            clear hh hz
            go_wp2_with fail
            go_meet
            exact ⟨by rw [E.out], rfl⟩
      case rest =>
        obtain ⟨rfl, ew⟩ := hcut
        replace ew := ew.symm
        subst ew
        have hrow : W0.heap[w.heap.size]? = some (.cells #[.int .u64 0, .int .u64 0] 24 (0, 0)) := by rw [HW0.out]; exact heap_alloc_new _ _
        have HB0 : Hid (Below w.heap.size w W0) := by show Below _ _ _; rw [HW0.out]; exact below1 _ _
        have Z := Lib.hid hrow
        have Z0 : W0.cell? ⟨w.heap.size, 0, none⟩ = some (.int .u64 0) := cell_of_row _ _ _ _ _ _ hrow
        have Z1 : W0.cell? ⟨w.heap.size, 1, none⟩ = some (.int .u64 0) := cell_of_row _ _ _ _ _ _ hrow
        have Zf0 : W0.frozen? ⟨w.heap.size, 0, none⟩ = false := by simp [World.frozen?, hrow]
        have Zf1 : W0.frozen? ⟨w.heap.size, 1, none⟩ = false := by simp [World.frozen?, hrow]
        have zZ := lt_of_heap hrow
        have HP := Lib.hid (@pErr_of s.data.toList)
        have HBR := Lib.hid (@bad_res s.data.toList HS.out)
        rw [HTL.out] at HF HG
        clear hrow
        cases h7 : form7 t.data.toList m
        · have HG2 := Lib.hid (HG.out h7)
          clear HF HG h7
          go_wp2_with fail
          go_loop [6] (fun x => ∃ i : Nat, i ≤ t.size ∧ x = .int .i64 i ∧ Hid ((t.data.toList.take i).all isd = true)) (fun x => t.size - (intOf x).toNat)
          case atStart => exact ⟨0, by omega, rfl, by simp [Hid]⟩
          case round =>
            obtain ⟨i, hle1, rfl, HI⟩ := hrel
            by_cases hlt : i < t.size
            · have hall := all_take_succ t.data.toList i (by rw [← HTS.out]; exact hlt)
              have hno := all_of_not t.data.toList i (by rw [← HTS.out]; exact hlt)
              rw [getD_at t i hlt] at hall hno
              have hdef : isd (t[i]'hlt) = (decide (48 ≤ (t[i]'hlt).toNat) && decide ((t[i]'hlt).toNat ≤ 57)) := rfl
              by_cases d1 : (t[i]'hlt).toNat < 48
              · have HX := Lib.hid (not_all_bad (s := s.data.toList) (by rw [HTL.out]; exact hno (by rw [hdef, decide_eq_false (by omega)]; rfl)))
                have t1 : ((t[i]'hlt).toNat : Int) < 48 := by omega
                clear hall hno hdef d1
                go_wp2
                refine shut_ret (v := .tuple #[.agg #[.int .u64 0, .int .u64 0], .int .i64 2]) (by simp [results, Try.results11, go_sem, Z0, Z1]) rfl ⟨by rw [(HBR.out HX.out).1, (HBR.out HX.out).2, hi_zero, lo_zero]; rfl, ?_⟩
                exact keep2 HB0.out (Nat.le_refl _) _ _
              · by_cases d2 : 57 < (t[i]'hlt).toNat
                · have HX := Lib.hid (not_all_bad (s := s.data.toList) (by rw [HTL.out]; exact hno (by rw [hdef, decide_eq_false (show ¬ (t[i]'hlt).toNat ≤ 57 by omega), Bool.and_false])))
                  have t1 : ¬ ((t[i]'hlt).toNat : Int) < 48 := by omega
                  have t2 : (57 : Int) < ((t[i]'hlt).toNat : Int) := by omega
                  clear hall hno hdef d1 d2
                  go_wp2
                  refine shut_ret (v := .tuple #[.agg #[.int .u64 0, .int .u64 0], .int .i64 2]) (by simp [results, Try.results11, go_sem, Z0, Z1]) rfl ⟨by rw [(HBR.out HX.out).1, (HBR.out HX.out).2, hi_zero, lo_zero]; rfl, ?_⟩
                  exact keep2 HB0.out (Nat.le_refl _) _ _
                · have HX : Hid ((t.data.toList.take (i + 1)).all isd = true) := by
                    show _ = _; rw [hall, HI.out, hdef, decide_eq_true (show 48 ≤ (t[i]'hlt).toNat by omega), decide_eq_true (show (t[i]'hlt).toNat ≤ 57 by omega)]; rfl
                  have t1 : ¬ ((t[i]'hlt).toNat : Int) < 48 := by omega
                  have t2 : ¬ (57 : Int) < ((t[i]'hlt).toNat : Int) := by omega
                  clear hall hno hdef d1 d2
                  go_wp2
                  go_round
                  case rel => exact ⟨i + 1, by omega, by go_num, HX⟩
                  case measure => simp [intOf]; omega
            · have HX : Hid (t.data.toList.all isd = true) := by
                have h := HI.out
                rw [List.take_of_length_le (by rw [← HTS.out]; omega)] at h
                exact h
              have HGB := Lib.hid (HG2.out HX.out)
              have HPB : Hid (plainB t.data.toList = true) := by show _ = _; rw [← HTL.out]; exact good_plain HGB.out
              by_cases h39 : 39 < t.size
              · have h39' : (39 : Int) < (t.size : Int) := by omega
                have HR := Lib.hid (out_res HS.out HGB.out (long_out (by rw [HTL.out]; exact HPB.out) (by rw [HTL.out, ← HTS.out]; exact h39)))
                go_wp2
                refine shut_ret (v := .tuple #[.agg #[.int .u64 0, .int .u64 0], .int .i64 8]) (by simp [results, Try.results11, go_sem, Z0, Z1]) rfl ⟨by rw [HR.out.1, HR.out.2, hi_zero, lo_zero]; rfl, ?_⟩
                exact keep2 HB0.out (Nat.le_refl _) _ _
              · exact absurd ⟨HGB.out, by rw [HTL.out, ← HTS.out]; omega⟩ HXX.out
        · have HX := Lib.hid (HF.out h7)
          clear HF HG
          go_wp2
          refine shut_ret (v := .tuple #[.agg #[.int .u64 0, .int .u64 0], .int .i64 2]) (by simp [results, Try.results11, go_sem, Z0, Z1]) rfl ⟨by rw [(HBR.out HX.out).1, (HBR.out HX.out).2, hi_zero, lo_zero]; rfl, ?_⟩
          exact keep2 HB0.out (Nat.le_refl _) _ _
end Go.Proofs.Ytlpbkdihjpceoaa
