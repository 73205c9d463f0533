/- Contract of the plain answer's Parse: texts of a form. -/
import Derived.Test.YtlpbkdihjpceoaaRefR
namespace Go.Proofs.Ytlpbkdihjpceoaa
set_option linter.unusedVariables false
set_option linter.unusedSimpArgs false
open Go.ChangeShapes Go.WideShapes Go.ChangeAt Go.RowKit

set_option maxHeartbeats 16000000 in
set_option maxRecDepth 100000 in
theorem refParse_good (s : ByteArray) (hs : s.size ≤ 64) (hx : badForm s.data.toList = false) (hy : (body s.data.toList).length ≤ 39) (w : World) :
    Calls Try.prog 11 #[.string s] w fun e w' => e = .returned (.tuple #[.agg #[.int .u64 (hi (pNum s.data.toList)), .int .u64 (lo (pNum s.data.toList))], .int .i64 (pErr s.data.toList)]) ∧ Below w.heap.size w w' := by
  have HXX := Lib.hid hx
  have HYY := Lib.hid hy
  clear hx hy
  obtain ⟨m, hm⟩ : ∃ m, Hid (isNeg s.data.toList = m) := ⟨_, rfl⟩
  have HN := Lib.hid (isNeg_head s)
  have HB1 := Lib.hid (body_slice s)
  have HB2 := Lib.hid (body_same s)
  have h64 : ¬ (64 : Int) < (s.size : Int) := by omega
  go_enter Try.func11, Try.ntmps11
  refine wp_shut ?_
  go_upto_region 4 with fail
  obtain ⟨W0, hW0⟩ : ∃ W0, W0 = w.alloc (Obj.cells #[Value.int IntKind.u64 0, Value.int IntKind.u64 0] 24) := ⟨_, rfl⟩
  rw [← hW0]
  have HW0 := Lib.hid hW0
  clear hW0
  go_cut [5] (fun s5 wx => s5 = .bool m ∧ wx = W0)
  case first =>
    by_cases h0 : 0 < s.size
    · have hi0 : (0 : Int) < (s.size : Int) := by omega
      by_cases h1 : (s[0]'h0).toNat = 45
      · have e : m = true := hm.out.symm.trans (HN.out.2 ⟨h0, h1⟩)
        subst e
        have h2 : ((s[0]'h0).toNat : Int) = 45 := by omega
        go_wp2_with fail
        go_meet
        exact ⟨rfl, rfl⟩
      · have e : m = false := by
          cases m
          · rfl
          · exact absurd ((HN.out.1 hm.out).2) h1
        subst e
        have h2 : (((s[0]'h0).toNat : Int) == 45) = false := by rw [beq_eq_false_iff_ne]; omega
        go_wp2_with fail
        go_meet
        exact ⟨rfl, rfl⟩
    · have e : m = false := by
        cases m
        · rfl
        · exact absurd ((HN.out.1 hm.out).1) h0
      subst e
      have h2 : s.size = 0 := by omega
      go_wp2_with fail
      go_meet
      exact ⟨rfl, rfl⟩
  case rest =>
    obtain ⟨rfl, ew⟩ := hcut
    replace ew := ew.symm
    subst ew
    go_upto_if 30 with (fail)
    go_cut [4] (fun s4 wx => s4 = .string ⟨(body s.data.toList).toArray⟩ ∧ wx = W0)
    case first =>
      cases m
      · have E := Lib.hid (HB2.out hm.out)
        go_wp2_with fail
        go_meet
        refine ⟨?_, rfl⟩
        show Value.string s = _
        rw [← E.out]
      · have E := Lib.hid (HB1.out hm.out)
        have hp : 0 < s.size := (HN.out.1 hm.out).1
        have hp1 : (1 : Int) ≤ (s.size : Int) := by omega
        go_wp2_with fail
        go_meet
        refine ⟨?_, rfl⟩
        show Value.string _ = _
        rw [← E.out]
    case rest =>
      obtain ⟨rfl, ew⟩ := hcut
      replace ew := ew.symm
      subst ew
      have HF : Hid (form7 (body s.data.toList) m = true → badForm s.data.toList = true) := fun h => form7_bad (by rw [hm.out]; exact h)
      have HG : Hid (form7 (body s.data.toList) m = false → (body s.data.toList).all isd = true → badForm s.data.toList = false) := fun h => form7_good (by rw [hm.out]; exact h)
      have HS : Hid (s.data.toList.length ≤ 64) := by rw [← Lib.size_eq]; exact hs
      obtain ⟨t, ht⟩ : ∃ t : ByteArray, t = ⟨(body s.data.toList).toArray⟩ := ⟨_, rfl⟩
      have HTL : Hid (body s.data.toList = t.data.toList) := by rw [ht]; rfl
      have HTS : Hid (t.size = t.data.toList.length) := Lib.size_eq t
      have hts : t.size ≤ 64 := by rw [HTS.out, ← HTL.out]; exact Nat.le_trans (body_len _) HS.out
      have hts2 : (t.size : Int) ≤ 64 := by omega
      rw [← ht]
      clear ht HN HB1 HB2 h64 hs
      go_upto_region 7 with fail
      go_cut [47] (fun s47 wx => s47 = .bool (form7 t.data.toList m) ∧ wx = W0)
      case first =>
        have hdef : form7 t.data.toList m = (t.data.toList.isEmpty || (t.data.toList.head? == some 48 && (decide (1 < t.size) || m))) := by unfold form7; rw [HTS.out]
        by_cases he : t.data.toList = []
        · have h1 : t.toList = [] := by rw [ByteArray.toList_eq]; exact he
          have E : Hid (form7 t.data.toList m = true) := by show _ = _; rw [hdef, he]; rfl
          clear hdef he
          go_wp2_with fail
          go_meet
          exact ⟨by rw [E.out], rfl⟩
        · have h1 : ¬ (t.toList = []) := by rw [ByteArray.toList_eq]; exact he
          have h2 : t.toList.isEmpty = false := by rw [ByteArray.toList_eq]; cases hl : t.data.toList with | nil => exact absurd hl he | cons _ _ => rfl
          have hpos : 0 < t.size := by rw [HTS.out]; exact List.length_pos_iff.2 he
          have hs0 : t.data.toList.head? = some (t[0]'hpos) := by
            rw [List.head?_eq_getElem?, List.getElem?_eq_getElem (by rw [← HTS.out]; exact hpos)]; rfl
          have hh : form7 t.data.toList m = (((t[0]'hpos).toNat == 48) && (decide (1 < t.size) || m)) := by
            rw [hdef, hs0, show t.data.toList.isEmpty = false by rw [← ByteArray.toList_eq]; exact h2, Bool.false_or]
            congr 1
            rw [Bool.eq_iff_iff]
            simp only [beq_iff_eq, Option.some.injEq]
            constructor
            · intro h; rw [h]; rfl
            · intro h; exact UInt8.toNat_inj.1 h
          clear hdef he hs0
          by_cases hz : (t[0]'hpos).toNat = 48
          · have z1 : (((t[0]'hpos).toNat : Int) == 48) = true := by rw [beq_iff_eq]; omega
            have z1' : ((t[0]'hpos).toNat : Int) = 48 := by omega
            by_cases h1 : 1 < t.size
            · have z2 : (1 : Int) < (t.size : Int) := by omega
              have E : Hid (form7 t.data.toList m = true) := by show _ = _; rw [hh, hz, decide_eq_true h1]; rfl
              clear hh hz
              go_wp2_with fail
              go_meet
              exact ⟨by rw [E.out], rfl⟩
            · have z2 : ¬ (1 : Int) < (t.size : Int) := by omega
              have E : Hid (form7 t.data.toList m = m) := by show _ = _; rw [hh, hz, decide_eq_false h1]; simp
              clear hh hz
              go_wp2_with fail
              go_meet
              exact ⟨by rw [E.out], rfl⟩
          · have z1 : (((t[0]'hpos).toNat : Int) == 48) = false := by rw [beq_eq_false_iff_ne]; omega
            have E : Hid (form7 t.data.toList m = false) := by show _ = _; rw [hh, beq_eq_false_iff_ne.2 hz]; rfl
            clear hh hz
            go_wp2_with fail
            go_meet
            exact ⟨by rw [E.out], rfl⟩
      case rest =>
        obtain ⟨rfl, ew⟩ := hcut
        replace ew := ew.symm
        subst ew
        have hrow : W0.heap[w.heap.size]? = some (.cells #[.int .u64 0, .int .u64 0] 24 (0, 0)) := by rw [HW0.out]; exact heap_alloc_new _ _
        have HB0 : Hid (Below w.heap.size w W0) := by show Below _ _ _; rw [HW0.out]; exact below1 _ _
        have Z := Lib.hid hrow
        have Z0 : W0.cell? ⟨w.heap.size, 0, none⟩ = some (.int .u64 0) := cell_of_row _ _ _ _ _ _ hrow
        have Z1 : W0.cell? ⟨w.heap.size, 1, none⟩ = some (.int .u64 0) := cell_of_row _ _ _ _ _ _ hrow
        have Zf0 : W0.frozen? ⟨w.heap.size, 0, none⟩ = false := by simp [World.frozen?, hrow]
        have Zf1 : W0.frozen? ⟨w.heap.size, 1, none⟩ = false := by simp [World.frozen?, hrow]
        have zZ := lt_of_heap hrow
        have HP := Lib.hid (@pErr_of s.data.toList)
        have HBR := Lib.hid (@bad_res s.data.toList HS.out)
        rw [HTL.out] at HF HG
        clear hrow
        cases h7 : form7 t.data.toList m
        · have HG2 := Lib.hid (HG.out h7)
          clear HF HG h7
          go_wp2_with fail
          go_loop [6] (fun x => ∃ i : Nat, i ≤ t.size ∧ x = .int .i64 i ∧ Hid ((t.data.toList.take i).all isd = true)) (fun x => t.size - (intOf x).toNat)
          case atStart => exact ⟨0, by omega, rfl, by simp [Hid]⟩
          case round =>
            obtain ⟨i, hle1, rfl, HI⟩ := hrel
            by_cases hlt : i < t.size
            · have hall := all_take_succ t.data.toList i (by rw [← HTS.out]; exact hlt)
              have hno := all_of_not t.data.toList i (by rw [← HTS.out]; exact hlt)
              rw [getD_at t i hlt] at hall hno
              have hdef : isd (t[i]'hlt) = (decide (48 ≤ (t[i]'hlt).toNat) && decide ((t[i]'hlt).toNat ≤ 57)) := rfl
              by_cases d1 : (t[i]'hlt).toNat < 48
              · have HX := Lib.hid (not_all_bad (s := s.data.toList) (by rw [HTL.out]; exact hno (by rw [hdef, decide_eq_false (by omega)]; rfl)))
                exact absurd (HXX.out.symm.trans HX.out) (by decide)
              · by_cases d2 : 57 < (t[i]'hlt).toNat
                · have HX := Lib.hid (not_all_bad (s := s.data.toList) (by rw [HTL.out]; exact hno (by rw [hdef, decide_eq_false (show ¬ (t[i]'hlt).toNat ≤ 57 by omega), Bool.and_false])))
                  exact absurd (HXX.out.symm.trans HX.out) (by decide)
                · have HX : Hid ((t.data.toList.take (i + 1)).all isd = true) := by
                    show _ = _; rw [hall, HI.out, hdef, decide_eq_true (show 48 ≤ (t[i]'hlt).toNat by omega), decide_eq_true (show (t[i]'hlt).toNat ≤ 57 by omega)]; rfl
                  have t1 : ¬ ((t[i]'hlt).toNat : Int) < 48 := by omega
                  have t2 : ¬ (57 : Int) < ((t[i]'hlt).toNat : Int) := by omega
                  clear hall hno hdef d1 d2
                  go_wp2
                  go_round
                  case rel => exact ⟨i + 1, by omega, by go_num, HX⟩
                  case measure => simp [intOf]; omega
            · have HX : Hid (t.data.toList.all isd = true) := by
                have h := HI.out
                rw [List.take_of_length_le (by rw [← HTS.out]; omega)] at h
                exact h
              have HGB := Lib.hid (HG2.out HX.out)
              have HPB : Hid (plainB t.data.toList = true) := by show _ = _; rw [← HTL.out]; exact good_plain HGB.out
              by_cases h39 : 39 < t.size
              · exfalso; have := HYY.out; rw [HTL.out, ← HTS.out] at this; omega
              · have h39' : ¬ (39 : Int) < (t.size : Int) := by omega
                clear HG2 HBR HI
                go_wp2_with fail
                obtain ⟨W1, hW1⟩ : ∃ W1, W1 = W0.alloc (Obj.cells #[Value.int IntKind.u64 0, Value.int IntKind.u64 0] 24) := ⟨_, rfl⟩
                have ez : W0.heap.size = w.heap.size + 1 := by rw [HW0.out]; simp
                have HPS : Hid (Pst w.heap.size 0 0 w W1) := by
                  have e := HB0.out
                  rw [hW1]
                  refine ⟨row_alloc Z.out _, row_at ez (heap_alloc_new _ _), e.alloc (by omega) _⟩
                rw [← hW1, ez]
                clear ez hW1 Z0 Z1 Zf0 Zf1 zZ
                go_loopw [8, 9] (fun s8 s9 wr => ∃ (i x y : Nat) (o : Bool), i ≤ t.size ∧ s9 = .int .i64 i ∧ s8 = .bool o ∧ Hid (PInv t.data.toList i x y o) ∧ Pst w.heap.size x y w wr) (fun _ s9 _ => t.size - (intOf s9).toNat)
                case atStart => exact ⟨0, 0, 0, false, by omega, rfl, rfl, ⟨by unfold U; omega, by unfold U; omega, fun _ => by rw [num_zero]; rfl, fun h => by cases h⟩, HPS.out⟩
                case round =>
                  obtain ⟨i, x, y, o, hil, rfl, rfl, HI, hX⟩ := hrel
                  clear HPS
                  by_cases hlt : i < t.size
                  · have hsucc := val10_succ t.data.toList i (by rw [← HTS.out]; exact hlt)
                    rw [getD_at t i hlt] at hsucc
                    have hdi : isd (t[i]'hlt) = true := by
                      have hd := HX.out
                      rw [List.all_eq_true] at hd
                      have hlt' : i < t.data.toList.length := by rw [← HTS.out]; exact hlt
                      have := hd _ (List.getElem_mem hlt')
                      exact this
                    have hdd : 48 ≤ (t[i]'hlt).toNat ∧ (t[i]'hlt).toNat ≤ 57 := by
                      unfold isd at hdi; rw [Bool.and_eq_true, decide_eq_true_eq, decide_eq_true_eq] at hdi; exact hdi
                    obtain ⟨d, HD⟩ : ∃ d, Hid (d = (t[i]'hlt).toNat - 48) := ⟨_, rfl⟩
                    have fd : ((t[i]'hlt).toNat : Int) - 48 = (d : Int) := by rw [HD.out]; omega
                    have hd10 : d < 10 := by rw [HD.out]; omega
                    have hlo : (48 : Int) ≤ ((t[i]'hlt).toNat : Int) := by omega
                    have hhi : ((t[i]'hlt).toNat : Int) ≤ 57 := by omega
                    have hgm := grow_math x y d HI.out.1 HI.out.2.1 hd10
                    rw [← HD.out] at hsucc
                    have u10 : U 10 := by unfold U; omega
                    have u0 : U 0 := by unfold U; omega
                    have XA := refAdd_any (hi (y * 10)) (lo (y * 10)) (lo (x * 10)) 0 (hi_U _) (lo_U _) (lo_U _) u0
                    rw [Nat.add_comm (num (hi (y * 10)) (lo (y * 10)))] at XA
                    have XM1 := refMul_any y 10 HI.out.2.1 u10
                    have XM2 := refMul_any x 10 HI.out.1 u10
                    have XB := fun A : Nat => refAdd_any (hi A) (lo A) 0 d (hi_U _) (lo_U _) u0 (by unfold U; omega)
                    rw [show ((10 : Nat) : Int) = 10 from rfl] at XM1 XM2
                    simp only [show ((0 : Nat) : Int) = 0 from rfl] at XA XB
                    dsimp only at hgm
                    have XB2 := XB (num (lo (x * 10)) 0 + num (hi (y * 10)) (lo (y * 10)))
                    obtain ⟨g1, g2, g3⟩ := hgm
                    generalize num (lo (x * 10)) 0 + num (hi (y * 10)) (lo (y * 10)) = A at *
                    generalize num (hi A) (lo A) + num 0 d = B at *
                    have HST := Lib.hid (HI.out.step hd10 hsucc B g1 g2 g3)
                    generalize big A = bA at *
                    generalize big B = bB at *
                    generalize hi A = ah at *
                    generalize lo A = al at *
                    generalize hi B = bh at *
                    generalize lo B = bl at *
                    obtain ⟨b1, e1⟩ : ∃ b1, b1 = hi (x * 10) := ⟨_, rfl⟩
                    have HM1 := Lib.hid XM1
                    rw [← e1] at XM2 HST
                    have HM2 := Lib.hid XM2
                    have HA1 := Lib.hid XA
                    have HA2 := Lib.hid XB2
                    have P1 := Lib.hid hX.x
                    have HPX := Lib.hid hX
                    clear XM1 XM2 XA XB XB2 g1 g2 g3 hsucc hdi hdd HI e1 u10 u0 hX
                    generalize hi (y * 10) = m1 at *
                    generalize lo (y * 10) = m2 at *
                    generalize lo (x * 10) = b2 at *
                    have fw1 : IntKind.u8.wrap (d : Int) = (d : Int) := by rw [IntKind.wrap_u8]; omega
                    have fw2 : IntKind.u64.wrap (d : Int) = (d : Int) := by rw [IntKind.wrap_u64]; omega
                    
                    have P1_0 : wr.cell? ⟨w.heap.size + 1, 0, none⟩ = some (.int .u64 x) := cell_of_row _ _ _ _ _ _ P1.out
                    have P1_1 : wr.cell? ⟨w.heap.size + 1, 1, none⟩ = some (.int .u64 y) := cell_of_row _ _ _ _ _ _ P1.out
                    have zP1 := lt_of_heap P1.out
                    go_wp2_with fail
                    refine (HM1.out _).mono ?_
                    rintro e V1 ⟨rfl, hb1⟩
                    clear P1_0 P1_1 zP1
                    have B1 : Hid (Below wr.heap.size wr V1) := by first | exact Lib.hid ((Below.refl wr.heap.size wr).trans (hb1.mono (by first | assumption | (simp <;> omega) | (simp; done)))) | exact Lib.hid (((Below.refl wr.heap.size wr).alloc (Nat.le_refl _) _).trans (hb1.mono (by first | assumption | (simp <;> omega) | (simp; done)))) | exact Lib.hid ((((Below.refl wr.heap.size wr).alloc (Nat.le_refl _) _).alloc (by simp <;> omega) _).trans (hb1.mono (by first | assumption | (simp <;> omega) | (simp; done)))) | exact Lib.hid (((((Below.refl wr.heap.size wr).alloc (Nat.le_refl _) _).alloc (by simp <;> omega) _).alloc (by simp <;> omega) _).trans (hb1.mono (by first | assumption | (simp <;> omega) | (simp; done))))
                    first | replace P1 := Lib.hid (row_call hb1 P1.out) | replace P1 := Lib.hid (row_call hb1 (row_alloc P1.out _)) | replace P1 := Lib.hid (row_call hb1 (row_alloc (row_alloc P1.out _) _)) | replace P1 := Lib.hid (row_call hb1 (row_alloc (row_alloc (row_alloc P1.out _) _) _))
                    clear hb1
                    have P1_0 : V1.cell? ⟨w.heap.size + 1, 0, none⟩ = some (.int .u64 x) := cell_of_row _ _ _ _ _ _ P1.out
                    have P1_1 : V1.cell? ⟨w.heap.size + 1, 1, none⟩ = some (.int .u64 y) := cell_of_row _ _ _ _ _ _ P1.out
                    have zP1 := lt_of_heap P1.out
                    go_simp
                    go_wp2_with fail
                    refine (HM2.out _).mono ?_
                    rintro e V2 ⟨rfl, hb2⟩
                    clear P1_0 P1_1 zP1
                    have nP1T1 := Lib.hid (lt_of_heap P1.out)
                    have B2 := Lib.hid (((B1.out).alloc (B1.out.size) _).trans (hb2.mono (by have := B1.out.size; first | assumption | (simp <;> omega) | (simp; done))))
                    replace P1 := Lib.hid (row_call hb2 (row_alloc P1.out _))
                    have T1 := Lib.hid (row_call hb2 (heap_alloc_new _ _))
                    clear hb2
                    have P1_0 : V2.cell? ⟨w.heap.size + 1, 0, none⟩ = some (.int .u64 x) := cell_of_row _ _ _ _ _ _ P1.out
                    have P1_1 : V2.cell? ⟨w.heap.size + 1, 1, none⟩ = some (.int .u64 y) := cell_of_row _ _ _ _ _ _ P1.out
                    have T1_0 : V2.cell? ⟨V1.heap.size, 0, none⟩ = some (.int .u64 m1) := cell_of_row _ _ _ _ _ _ T1.out
                    have T1_1 : V2.cell? ⟨V1.heap.size, 1, none⟩ = some (.int .u64 m2) := cell_of_row _ _ _ _ _ _ T1.out
                    have zP1 := lt_of_heap P1.out
                    have zT1 := lt_of_heap T1.out
                    go_simp
                    go_wp2_with fail
                    refine (HA1.out _).mono ?_
                    rintro e V3 ⟨rfl, hb3⟩
                    clear P1_0 P1_1 zP1 T1_0 T1_1 zT1
                    have nP1G1 := Lib.hid (lt_of_heap P1.out)
                    have nT1G1 := Lib.hid (lt_of_heap T1.out)
                    have B3 := Lib.hid (((B2.out).alloc (B2.out.size) _).trans (hb3.mono (by have := B2.out.size; first | assumption | (simp <;> omega) | (simp; done))))
                    replace P1 := Lib.hid (row_call hb3 (row_alloc P1.out _))
                    replace T1 := Lib.hid (row_call hb3 (row_alloc T1.out _))
                    have G1 := Lib.hid (row_call hb3 (heap_alloc_new _ _))
                    clear hb3
                    have P1_0 : V3.cell? ⟨w.heap.size + 1, 0, none⟩ = some (.int .u64 x) := cell_of_row _ _ _ _ _ _ P1.out
                    have P1_1 : V3.cell? ⟨w.heap.size + 1, 1, none⟩ = some (.int .u64 y) := cell_of_row _ _ _ _ _ _ P1.out
                    have T1_0 : V3.cell? ⟨V1.heap.size, 0, none⟩ = some (.int .u64 m1) := cell_of_row _ _ _ _ _ _ T1.out
                    have T1_1 : V3.cell? ⟨V1.heap.size, 1, none⟩ = some (.int .u64 m2) := cell_of_row _ _ _ _ _ _ T1.out
                    have G1_0 : V3.cell? ⟨V2.heap.size, 0, none⟩ = some (.int .u64 b1) := cell_of_row _ _ _ _ _ _ G1.out
                    have G1_1 : V3.cell? ⟨V2.heap.size, 1, none⟩ = some (.int .u64 b2) := cell_of_row _ _ _ _ _ _ G1.out
                    have zP1 := lt_of_heap P1.out
                    have zT1 := lt_of_heap T1.out
                    have zG1 := lt_of_heap G1.out
                    go_simp
                    go_wp2_with fail
                    have nP1C1 := Lib.hid (lt_of_heap P1.out)
                    have nT1C1 := Lib.hid (lt_of_heap T1.out)
                    have nG1C1 := Lib.hid (lt_of_heap G1.out)
                    clear P1_0 P1_1 zP1 T1_0 T1_1 zT1 G1_0 G1_1 zG1
                    obtain ⟨W0, hW0⟩ : ∃ W0, W0 = (V3.alloc (Obj.cells #[Value.int .u64 ah, Value.int .u64 al] 24)) := ⟨_, rfl⟩
                    replace P1 := Lib.hid (row_by hW0 (row_alloc P1.out _))
                    replace T1 := Lib.hid (row_by hW0 (row_alloc T1.out _))
                    replace G1 := Lib.hid (row_by hW0 (row_alloc G1.out _))
                    have C1 := Lib.hid (row_at (k' := V3.heap.size) (by simp) (row_by hW0 (heap_alloc_new _ _)))
                    have HB0 := Lib.hid (below_by hW0 ((B3.out).alloc (by have := B3.out.size; simp <;> omega) _))
                    have HW0 := Lib.hid hW0
                    clear hW0
                    have P1_0 : W0.cell? ⟨w.heap.size + 1, 0, none⟩ = some (.int .u64 x) := cell_of_row _ _ _ _ _ _ P1.out
                    have P1_1 : W0.cell? ⟨w.heap.size + 1, 1, none⟩ = some (.int .u64 y) := cell_of_row _ _ _ _ _ _ P1.out
                    have zP1 := lt_of_heap P1.out
                    have T1_0 : W0.cell? ⟨V1.heap.size, 0, none⟩ = some (.int .u64 m1) := cell_of_row _ _ _ _ _ _ T1.out
                    have T1_1 : W0.cell? ⟨V1.heap.size, 1, none⟩ = some (.int .u64 m2) := cell_of_row _ _ _ _ _ _ T1.out
                    have zT1 := lt_of_heap T1.out
                    have G1_0 : W0.cell? ⟨V2.heap.size, 0, none⟩ = some (.int .u64 b1) := cell_of_row _ _ _ _ _ _ G1.out
                    have G1_1 : W0.cell? ⟨V2.heap.size, 1, none⟩ = some (.int .u64 b2) := cell_of_row _ _ _ _ _ _ G1.out
                    have zG1 := lt_of_heap G1.out
                    have C1_0 : W0.cell? ⟨V3.heap.size, 0, none⟩ = some (.int .u64 ah) := cell_of_row _ _ _ _ _ _ C1.out
                    have C1_1 : W0.cell? ⟨V3.heap.size, 1, none⟩ = some (.int .u64 al) := cell_of_row _ _ _ _ _ _ C1.out
                    have zC1 := lt_of_heap C1.out
                    try rw [← HW0.out]
                    go_cut [14, 15] (fun s14 s15 wx => ∃ gD1 : Nat, s14 = .pointer (some ⟨gD1, 0, none⟩) ∧ s15 = .bool bB ∧ wx.heap[gD1]? = some (.cells #[.int .u64 bh, .int .u64 bl] 24 (0, 0)) ∧ Below W0.heap.size W0 wx)
                    case first =>
                      go_region_held3 (fun w' => Below W0.heap.size W0 w' ∧ w'.cell? ⟨V3.heap.size, 0, none⟩ = some (.int .u64 ah) ∧ w'.cell? ⟨V3.heap.size, 1, none⟩ = some (.int .u64 al))
    (first
      | ((try go_split_ands); refine ⟨(Below.refl _ _).drew, ?_, ?_⟩ <;> first | assumption | (rw [World.cell?_drew]; assumption))
      | ((try go_split_ands); refine ⟨keepS (W0 := W0) ?_ hb1, cellS (W0 := W0) ?_ hb1 ?_ ?_, cellS (W0 := W0) ?_ hb1 ?_ ?_⟩ <;> first | assumption | omega)
      | ((try go_split_ands); refine ⟨keepA (W0 := W0) ?_ _, cellA (W0 := W0) ?_ _ ?_ ?_, cellA (W0 := W0) ?_ _ ?_ ?_⟩ <;> first | assumption | omega)
      | ((try go_split_ands); refine ⟨keepAd (W0 := W0) ?_ _, cellAd (W0 := W0) ?_ _ ?_ ?_, cellAd (W0 := W0) ?_ _ ?_ ?_⟩ <;> first | assumption | omega | exact Below.refl _ _)
      | ((try go_split_ands); refine ⟨keep2 (W0 := W0) ?_ ?_ _ _, cell2 (W0 := W0) ?_ _ _ ?_ ?_, cell2 (W0 := W0) ?_ _ _ ?_ ?_⟩ <;> first | assumption | omega | exact Nat.le_refl _)
      | ((try go_split_ands); refine ⟨keepZ (W0 := W0) ?_ ?_ _, cellZ (W0 := W0) ?_ _ ?_ ?_, cellZ (W0 := W0) ?_ _ ?_ ?_⟩ <;> first | assumption | omega | exact Nat.le_refl _ | exact ⟨_, by assumption⟩))
    (first | (go_at_call 38; (with_reducible refine (HA2.out _).mono ?_); rintro e w1 ⟨rfl, hb1⟩; (try go_split_ands); have hge : W0.heap.size ≤ w1.heap.size := (by first | (refine (keepS (W0 := W0) ?_ hb1).size; assumption) | exact (hb1.size : W0.heap.size ≤ w1.heap.size)); (try have hrow := row_call hb1 hrow); (try have hrow := row_new hb1); (try have hrow := row_newd hb1); have hl1 := lt_below hb1; obtain ⟨hc1, hf1⟩ := bcell hb1; (try (have hrc := row_cellA hrow; clear hc1 hf1)); (try have hrf := row_frozA hrow)))
                      all_goals (try go_split_ands)
                      all_goals (go_wp2_with fail; go_meet; refine ⟨_, rfl, rfl, ?_, ?_⟩)
                      all_goals first | assumption | exact heap_alloc_new _ _ | exact row_set (by assumption) _ _
                    case rest =>
                      obtain ⟨gD1, rfl, rfl, hD1, hB⟩ := hcut
                      obtain ⟨V4, rfl⟩ : ∃ V, V = wc := ⟨_, rfl⟩
                      have D1 := Lib.hid hD1
                      clear hD1
                      clear P1_0 P1_1 zP1 T1_0 T1_1 zT1 G1_0 G1_1 zG1 C1_0 C1_1 zC1
                      replace P1 := Lib.hid (row_call hB P1.out)
                      replace T1 := Lib.hid (row_call hB T1.out)
                      replace G1 := Lib.hid (row_call hB G1.out)
                      replace C1 := Lib.hid (row_call hB C1.out)
                      have B4 := Lib.hid (HB0.out.trans (hB.mono HB0.out.size))
                      clear hB
                      have P1_0 : V4.cell? ⟨w.heap.size + 1, 0, none⟩ = some (.int .u64 x) := cell_of_row _ _ _ _ _ _ P1.out
                      have P1_1 : V4.cell? ⟨w.heap.size + 1, 1, none⟩ = some (.int .u64 y) := cell_of_row _ _ _ _ _ _ P1.out
                      have zP1 := lt_of_heap P1.out
                      have T1_0 : V4.cell? ⟨V1.heap.size, 0, none⟩ = some (.int .u64 m1) := cell_of_row _ _ _ _ _ _ T1.out
                      have T1_1 : V4.cell? ⟨V1.heap.size, 1, none⟩ = some (.int .u64 m2) := cell_of_row _ _ _ _ _ _ T1.out
                      have zT1 := lt_of_heap T1.out
                      have G1_0 : V4.cell? ⟨V2.heap.size, 0, none⟩ = some (.int .u64 b1) := cell_of_row _ _ _ _ _ _ G1.out
                      have G1_1 : V4.cell? ⟨V2.heap.size, 1, none⟩ = some (.int .u64 b2) := cell_of_row _ _ _ _ _ _ G1.out
                      have zG1 := lt_of_heap G1.out
                      have C1_0 : V4.cell? ⟨V3.heap.size, 0, none⟩ = some (.int .u64 ah) := cell_of_row _ _ _ _ _ _ C1.out
                      have C1_1 : V4.cell? ⟨V3.heap.size, 1, none⟩ = some (.int .u64 al) := cell_of_row _ _ _ _ _ _ C1.out
                      have zC1 := lt_of_heap C1.out
                      have D1_0 : V4.cell? ⟨gD1, 0, none⟩ = some (.int .u64 bh) := cell_of_row _ _ _ _ _ _ D1.out
                      have D1_1 : V4.cell? ⟨gD1, 1, none⟩ = some (.int .u64 bl) := cell_of_row _ _ _ _ _ _ D1.out
                      have zD1 := lt_of_heap D1.out
                      clear HM1 HM2 HA1 HA2 fd hlo hhi fw1 fw2
                      go_upto_region 25 with fail
                      go_cut [8] (fun s8 wx => s8 = .bool (o || (!decide (b1 = 0) || (bA || bB))) ∧ wx = V4)
                      case first =>
                        by_cases hb1 : b1 = 0
                        · have f1 : ((b1 : Int) != 0) = false := by rw [bne_eq_false_iff_eq]; omega
                          have f2 : decide (b1 = 0) = true := decide_eq_true hb1
                          have F2 := Lib.hid f2
                          clear hb1 f2
                          cases o <;> cases bA <;> cases bB <;> (go_wp2_with fail; go_meet; exact ⟨by rw [F2.out]; rfl, rfl⟩)
                        · have f1 : ((b1 : Int) != 0) = true := by rw [bne_iff_ne]; omega
                          have f2 : decide (b1 = 0) = false := decide_eq_false hb1
                          have F2 := Lib.hid f2
                          clear hb1 f2
                          cases o <;> (go_wp2_with fail; go_meet; exact ⟨by rw [F2.out]; rfl, rfl⟩)
                      case rest =>
                        obtain ⟨rfl, ew⟩ := hcut
                        replace ew := ew.symm
                        subst ew
                        have P1_f0 : V4.frozen? ⟨w.heap.size + 1, 0, none⟩ = false := by simp [World.frozen?, P1.out]
                        have P1_f1 : V4.frozen? ⟨w.heap.size + 1, 1, none⟩ = false := by simp [World.frozen?, P1.out]
                        have HPY := Lib.hid (HPX.out.below B4.out)
                        go_wp2
                        go_roundw
                        case rel => exact ⟨i + 1, bh, bl, _, by omega, by go_num, rfl, HST.out, HPY.out.setX _ _⟩
                        case measure => simp [intOf]; omega
                  · skip
                    obtain rfl : i = t.size := by omega
                    have hv : t.data.toList.take t.size = t.data.toList := List.take_of_length_le (by rw [← HTS.out]; exact Nat.le_refl _)
                    have ho : outOf s.data.toList = if m then decide (170141183460469231731687303715884105728 < val10 t.data.toList) else decide (170141183460469231731687303715884105728 ≤ val10 t.data.toList) := by unfold outOf; rw [hm.out, HTL.out]
                    have HOK := Lib.hid (@ok_res s.data.toList HS.out HGB.out)
                    have HOUT := Lib.hid (@out_res s.data.toList HS.out HGB.out)
                    have P1 := Lib.hid hX.x
                    have ZR := Lib.hid hX.z
                    have HPX := Lib.hid hX
                    obtain ⟨ux, uy, i1, i2⟩ := HI.out
                    rw [hv] at i1 i2
                    clear hX HI hv HX
                    cases o
                    · have hN := i1 rfl
                      have hl := num_lt ux uy
                      have XC := refCmp_any x y 9223372036854775808 0 uy (by unfold U; omega)
                      have e27 : num 9223372036854775808 0 = 170141183460469231731687303715884105728 := by unfold num; omega
                      rw [e27, hN] at XC
                      simp only [show ((0 : Nat) : Int) = 0 from rfl, show ((9223372036854775808 : Nat) : Int) = 9223372036854775808 from rfl] at XC
                      have XN := refNeg_any x y ux uy
                      rw [hN] at XN
                      have ex : hi (val10 t.data.toList) = x := by rw [← hN]; exact hi_num ux uy
                      have ey : lo (val10 t.data.toList) = y := by rw [← hN]; exact lo_num uy
                      rw [hN] at hl
                      rw [HTL.out, hm.out] at HOK
                      clear i1 i2 hN e27
                      generalize val10 t.data.toList = v at *
                      rcases Nat.lt_trichotomy v 170141183460469231731687303715884105728 with h | h | h
                      · rw [show cmpI v 170141183460469231731687303715884105728 = -1 by unfold cmpI; rw [if_neg (by omega), if_pos h]] at XC
                        have HC := Lib.hid XC
                        have HR := Lib.hid (HOK.out (by rw [ho]; cases m <;> exact decide_eq_false (by omega)))
                        cases m
                        · have HR2 : Hid (hi (pNum s.data.toList) = x ∧ lo (pNum s.data.toList) = y) := by
                            show _ ∧ _
                            rw [HR.out.2, if_neg (by decide)]; exact ⟨ex, ey⟩
                          clear XC XN ex ey ho h hl
                          
                          have P1_0 : wr.cell? ⟨w.heap.size + 1, 0, none⟩ = some (.int .u64 x) := cell_of_row _ _ _ _ _ _ P1.out
                          have P1_1 : wr.cell? ⟨w.heap.size + 1, 1, none⟩ = some (.int .u64 y) := cell_of_row _ _ _ _ _ _ P1.out
                          have zP1 := lt_of_heap P1.out
                          have ZR_0 : wr.cell? ⟨w.heap.size, 0, none⟩ = some (.int .u64 0) := cell_of_row _ _ _ _ _ _ ZR.out
                          have ZR_1 : wr.cell? ⟨w.heap.size, 1, none⟩ = some (.int .u64 0) := cell_of_row _ _ _ _ _ _ ZR.out
                          have zZR := lt_of_heap ZR.out
                          go_wp2_with fail
                          refine (HC.out _).mono ?_
                          rintro e V1 ⟨rfl, hb1⟩
                          clear P1_0 P1_1 zP1 ZR_0 ZR_1 zZR
                          have nP1M1 := Lib.hid (lt_of_heap P1.out)
                          have nZRM1 := Lib.hid (lt_of_heap ZR.out)
                          have B1 := Lib.hid (((Below.refl wr.heap.size wr).alloc (Nat.le_refl _) _).trans (hb1.mono (by first | assumption | (simp <;> omega) | (simp; done))))
                          replace P1 := Lib.hid (row_call hb1 (row_alloc P1.out _))
                          replace ZR := Lib.hid (row_call hb1 (row_alloc ZR.out _))
                          have M1 := Lib.hid (row_call hb1 (heap_alloc_new _ _))
                          clear hb1
                          have P1_0 : V1.cell? ⟨w.heap.size + 1, 0, none⟩ = some (.int .u64 x) := cell_of_row _ _ _ _ _ _ P1.out
                          have P1_1 : V1.cell? ⟨w.heap.size + 1, 1, none⟩ = some (.int .u64 y) := cell_of_row _ _ _ _ _ _ P1.out
                          have ZR_0 : V1.cell? ⟨w.heap.size, 0, none⟩ = some (.int .u64 0) := cell_of_row _ _ _ _ _ _ ZR.out
                          have ZR_1 : V1.cell? ⟨w.heap.size, 1, none⟩ = some (.int .u64 0) := cell_of_row _ _ _ _ _ _ ZR.out
                          have M1_0 : V1.cell? ⟨wr.heap.size, 0, none⟩ = some (.int .u64 9223372036854775808) := cell_of_row _ _ _ _ _ _ M1.out
                          have M1_1 : V1.cell? ⟨wr.heap.size, 1, none⟩ = some (.int .u64 0) := cell_of_row _ _ _ _ _ _ M1.out
                          have zP1 := lt_of_heap P1.out
                          have zZR := lt_of_heap ZR.out
                          have zM1 := lt_of_heap M1.out
                          go_simp
                          go_wp2_with fail
                          refine (HC.out _).mono ?_
                          rintro e V2 ⟨rfl, hb2⟩
                          clear P1_0 P1_1 zP1 ZR_0 ZR_1 zZR M1_0 M1_1 zM1
                          have B2 : Hid (Below wr.heap.size wr V2) := by first | exact Lib.hid ((B1.out).trans (hb2.mono (by have := B1.out.size; first | assumption | (simp <;> omega) | (simp; done)))) | exact Lib.hid (((B1.out).alloc (B1.out.size) _).trans (hb2.mono (by have := B1.out.size; first | assumption | (simp <;> omega) | (simp; done)))) | exact Lib.hid ((((B1.out).alloc (B1.out.size) _).alloc (by have := B1.out.size; simp <;> omega) _).trans (hb2.mono (by have := B1.out.size; first | assumption | (simp <;> omega) | (simp; done)))) | exact Lib.hid (((((B1.out).alloc (B1.out.size) _).alloc (by have := B1.out.size; simp <;> omega) _).alloc (by have := B1.out.size; simp <;> omega) _).trans (hb2.mono (by have := B1.out.size; first | assumption | (simp <;> omega) | (simp; done))))
                          first | replace P1 := Lib.hid (row_call hb2 P1.out) | replace P1 := Lib.hid (row_call hb2 (row_alloc P1.out _)) | replace P1 := Lib.hid (row_call hb2 (row_alloc (row_alloc P1.out _) _)) | replace P1 := Lib.hid (row_call hb2 (row_alloc (row_alloc (row_alloc P1.out _) _) _))
                          first | replace ZR := Lib.hid (row_call hb2 ZR.out) | replace ZR := Lib.hid (row_call hb2 (row_alloc ZR.out _)) | replace ZR := Lib.hid (row_call hb2 (row_alloc (row_alloc ZR.out _) _)) | replace ZR := Lib.hid (row_call hb2 (row_alloc (row_alloc (row_alloc ZR.out _) _) _))
                          first | replace M1 := Lib.hid (row_call hb2 M1.out) | replace M1 := Lib.hid (row_call hb2 (row_alloc M1.out _)) | replace M1 := Lib.hid (row_call hb2 (row_alloc (row_alloc M1.out _) _)) | replace M1 := Lib.hid (row_call hb2 (row_alloc (row_alloc (row_alloc M1.out _) _) _))
                          clear hb2
                          have P1_0 : V2.cell? ⟨w.heap.size + 1, 0, none⟩ = some (.int .u64 x) := cell_of_row _ _ _ _ _ _ P1.out
                          have P1_1 : V2.cell? ⟨w.heap.size + 1, 1, none⟩ = some (.int .u64 y) := cell_of_row _ _ _ _ _ _ P1.out
                          have ZR_0 : V2.cell? ⟨w.heap.size, 0, none⟩ = some (.int .u64 0) := cell_of_row _ _ _ _ _ _ ZR.out
                          have ZR_1 : V2.cell? ⟨w.heap.size, 1, none⟩ = some (.int .u64 0) := cell_of_row _ _ _ _ _ _ ZR.out
                          have M1_0 : V2.cell? ⟨wr.heap.size, 0, none⟩ = some (.int .u64 9223372036854775808) := cell_of_row _ _ _ _ _ _ M1.out
                          have M1_1 : V2.cell? ⟨wr.heap.size, 1, none⟩ = some (.int .u64 0) := cell_of_row _ _ _ _ _ _ M1.out
                          have zP1 := lt_of_heap P1.out
                          have zZR := lt_of_heap ZR.out
                          have zM1 := lt_of_heap M1.out
                          have ZRf0 : V2.frozen? ⟨w.heap.size, 0, none⟩ = false := by simp [World.frozen?, ZR.out]
                          have ZRf1 : V2.frozen? ⟨w.heap.size, 1, none⟩ = false := by simp [World.frozen?, ZR.out]
                          have P1f0 : V2.frozen? ⟨w.heap.size + 1, 0, none⟩ = false := by simp [World.frozen?, P1.out]
                          have P1f1 : V2.frozen? ⟨w.heap.size + 1, 1, none⟩ = false := by simp [World.frozen?, P1.out]
                          go_simp
                          go_wp2
                          refine shut_ret (v := .tuple #[.agg #[.int .u64 x, .int .u64 y], .int .i64 0]) (by simp [results, Try.results11, go_sem, zZR, zP1, ZR_0, ZR_1, P1_0, P1_1]) rfl ⟨by rw [HR.out.1, HR2.out.1, HR2.out.2]; rfl, ?_⟩
                          exact keep2 (HPX.out.below B2.out).b (Nat.le_refl _) _ _
                        · have HNG := Lib.hid XN
                          have HR2 : Hid (hi (pNum s.data.toList) = hi (340282366920938463463374607431768211456 - v) ∧ lo (pNum s.data.toList) = lo (340282366920938463463374607431768211456 - v)) := by
                            show _ ∧ _
                            rw [HR.out.2, if_pos rfl]; exact ⟨rfl, rfl⟩
                          clear XC XN ex ey ho h hl
                          generalize hi (340282366920938463463374607431768211456 - v) = nh at *
                          generalize lo (340282366920938463463374607431768211456 - v) = nl at *
                          
                          have P1_0 : wr.cell? ⟨w.heap.size + 1, 0, none⟩ = some (.int .u64 x) := cell_of_row _ _ _ _ _ _ P1.out
                          have P1_1 : wr.cell? ⟨w.heap.size + 1, 1, none⟩ = some (.int .u64 y) := cell_of_row _ _ _ _ _ _ P1.out
                          have zP1 := lt_of_heap P1.out
                          have ZR_0 : wr.cell? ⟨w.heap.size, 0, none⟩ = some (.int .u64 0) := cell_of_row _ _ _ _ _ _ ZR.out
                          have ZR_1 : wr.cell? ⟨w.heap.size, 1, none⟩ = some (.int .u64 0) := cell_of_row _ _ _ _ _ _ ZR.out
                          have zZR := lt_of_heap ZR.out
                          go_wp2_with fail
                          refine (HC.out _).mono ?_
                          rintro e V1 ⟨rfl, hb1⟩
                          clear P1_0 P1_1 zP1 ZR_0 ZR_1 zZR
                          have nP1M1 := Lib.hid (lt_of_heap P1.out)
                          have nZRM1 := Lib.hid (lt_of_heap ZR.out)
                          have B1 := Lib.hid (((Below.refl wr.heap.size wr).alloc (Nat.le_refl _) _).trans (hb1.mono (by first | assumption | (simp <;> omega) | (simp; done))))
                          replace P1 := Lib.hid (row_call hb1 (row_alloc P1.out _))
                          replace ZR := Lib.hid (row_call hb1 (row_alloc ZR.out _))
                          have M1 := Lib.hid (row_call hb1 (heap_alloc_new _ _))
                          clear hb1
                          have P1_0 : V1.cell? ⟨w.heap.size + 1, 0, none⟩ = some (.int .u64 x) := cell_of_row _ _ _ _ _ _ P1.out
                          have P1_1 : V1.cell? ⟨w.heap.size + 1, 1, none⟩ = some (.int .u64 y) := cell_of_row _ _ _ _ _ _ P1.out
                          have ZR_0 : V1.cell? ⟨w.heap.size, 0, none⟩ = some (.int .u64 0) := cell_of_row _ _ _ _ _ _ ZR.out
                          have ZR_1 : V1.cell? ⟨w.heap.size, 1, none⟩ = some (.int .u64 0) := cell_of_row _ _ _ _ _ _ ZR.out
                          have M1_0 : V1.cell? ⟨wr.heap.size, 0, none⟩ = some (.int .u64 9223372036854775808) := cell_of_row _ _ _ _ _ _ M1.out
                          have M1_1 : V1.cell? ⟨wr.heap.size, 1, none⟩ = some (.int .u64 0) := cell_of_row _ _ _ _ _ _ M1.out
                          have zP1 := lt_of_heap P1.out
                          have zZR := lt_of_heap ZR.out
                          have zM1 := lt_of_heap M1.out
                          go_simp
                          go_wp2_with fail
                          refine (HNG.out _).mono ?_
                          rintro e V2 ⟨rfl, hb2⟩
                          clear P1_0 P1_1 zP1 ZR_0 ZR_1 zZR M1_0 M1_1 zM1
                          have B2 : Hid (Below wr.heap.size wr V2) := by first | exact Lib.hid ((B1.out).trans (hb2.mono (by have := B1.out.size; first | assumption | (simp <;> omega) | (simp; done)))) | exact Lib.hid (((B1.out).alloc (B1.out.size) _).trans (hb2.mono (by have := B1.out.size; first | assumption | (simp <;> omega) | (simp; done)))) | exact Lib.hid ((((B1.out).alloc (B1.out.size) _).alloc (by have := B1.out.size; simp <;> omega) _).trans (hb2.mono (by have := B1.out.size; first | assumption | (simp <;> omega) | (simp; done)))) | exact Lib.hid (((((B1.out).alloc (B1.out.size) _).alloc (by have := B1.out.size; simp <;> omega) _).alloc (by have := B1.out.size; simp <;> omega) _).trans (hb2.mono (by have := B1.out.size; first | assumption | (simp <;> omega) | (simp; done))))
                          first | replace P1 := Lib.hid (row_call hb2 P1.out) | replace P1 := Lib.hid (row_call hb2 (row_alloc P1.out _)) | replace P1 := Lib.hid (row_call hb2 (row_alloc (row_alloc P1.out _) _)) | replace P1 := Lib.hid (row_call hb2 (row_alloc (row_alloc (row_alloc P1.out _) _) _))
                          first | replace ZR := Lib.hid (row_call hb2 ZR.out) | replace ZR := Lib.hid (row_call hb2 (row_alloc ZR.out _)) | replace ZR := Lib.hid (row_call hb2 (row_alloc (row_alloc ZR.out _) _)) | replace ZR := Lib.hid (row_call hb2 (row_alloc (row_alloc (row_alloc ZR.out _) _) _))
                          first | replace M1 := Lib.hid (row_call hb2 M1.out) | replace M1 := Lib.hid (row_call hb2 (row_alloc M1.out _)) | replace M1 := Lib.hid (row_call hb2 (row_alloc (row_alloc M1.out _) _)) | replace M1 := Lib.hid (row_call hb2 (row_alloc (row_alloc (row_alloc M1.out _) _) _))
                          clear hb2
                          have P1_0 : V2.cell? ⟨w.heap.size + 1, 0, none⟩ = some (.int .u64 x) := cell_of_row _ _ _ _ _ _ P1.out
                          have P1_1 : V2.cell? ⟨w.heap.size + 1, 1, none⟩ = some (.int .u64 y) := cell_of_row _ _ _ _ _ _ P1.out
                          have ZR_0 : V2.cell? ⟨w.heap.size, 0, none⟩ = some (.int .u64 0) := cell_of_row _ _ _ _ _ _ ZR.out
                          have ZR_1 : V2.cell? ⟨w.heap.size, 1, none⟩ = some (.int .u64 0) := cell_of_row _ _ _ _ _ _ ZR.out
                          have M1_0 : V2.cell? ⟨wr.heap.size, 0, none⟩ = some (.int .u64 9223372036854775808) := cell_of_row _ _ _ _ _ _ M1.out
                          have M1_1 : V2.cell? ⟨wr.heap.size, 1, none⟩ = some (.int .u64 0) := cell_of_row _ _ _ _ _ _ M1.out
                          have zP1 := lt_of_heap P1.out
                          have zZR := lt_of_heap ZR.out
                          have zM1 := lt_of_heap M1.out
                          have ZRf0 : V2.frozen? ⟨w.heap.size, 0, none⟩ = false := by simp [World.frozen?, ZR.out]
                          have ZRf1 : V2.frozen? ⟨w.heap.size, 1, none⟩ = false := by simp [World.frozen?, ZR.out]
                          have P1f0 : V2.frozen? ⟨w.heap.size + 1, 0, none⟩ = false := by simp [World.frozen?, P1.out]
                          have P1f1 : V2.frozen? ⟨w.heap.size + 1, 1, none⟩ = false := by simp [World.frozen?, P1.out]
                          go_simp
                          go_wp2
                          refine shut_ret (v := .tuple #[.agg #[.int .u64 nh, .int .u64 nl], .int .i64 0]) (by simp [results, Try.results11, go_sem, zZR, zP1, ZR_0, ZR_1, P1_0, P1_1]) rfl ⟨by rw [HR.out.1, HR2.out.1, HR2.out.2]; rfl, ?_⟩
                          exact keep2 ((HPX.out.below B2.out).setX nh nl).b (Nat.le_refl _) _ _
                      · rw [show cmpI v 170141183460469231731687303715884105728 = 0 by unfold cmpI; rw [if_pos h]] at XC
                        have HC := Lib.hid XC
                        cases m
                        · have HR := Lib.hid (HOUT.out (by rw [ho, if_neg (by decide)]; exact decide_eq_true (by omega)))
                          clear XC XN ex ey ho h hl
                          
                          have P1_0 : wr.cell? ⟨w.heap.size + 1, 0, none⟩ = some (.int .u64 x) := cell_of_row _ _ _ _ _ _ P1.out
                          have P1_1 : wr.cell? ⟨w.heap.size + 1, 1, none⟩ = some (.int .u64 y) := cell_of_row _ _ _ _ _ _ P1.out
                          have zP1 := lt_of_heap P1.out
                          have ZR_0 : wr.cell? ⟨w.heap.size, 0, none⟩ = some (.int .u64 0) := cell_of_row _ _ _ _ _ _ ZR.out
                          have ZR_1 : wr.cell? ⟨w.heap.size, 1, none⟩ = some (.int .u64 0) := cell_of_row _ _ _ _ _ _ ZR.out
                          have zZR := lt_of_heap ZR.out
                          go_wp2_with fail
                          refine (HC.out _).mono ?_
                          rintro e V1 ⟨rfl, hb1⟩
                          clear P1_0 P1_1 zP1 ZR_0 ZR_1 zZR
                          have nP1M1 := Lib.hid (lt_of_heap P1.out)
                          have nZRM1 := Lib.hid (lt_of_heap ZR.out)
                          have B1 := Lib.hid (((Below.refl wr.heap.size wr).alloc (Nat.le_refl _) _).trans (hb1.mono (by first | assumption | (simp <;> omega) | (simp; done))))
                          replace P1 := Lib.hid (row_call hb1 (row_alloc P1.out _))
                          replace ZR := Lib.hid (row_call hb1 (row_alloc ZR.out _))
                          have M1 := Lib.hid (row_call hb1 (heap_alloc_new _ _))
                          clear hb1
                          have P1_0 : V1.cell? ⟨w.heap.size + 1, 0, none⟩ = some (.int .u64 x) := cell_of_row _ _ _ _ _ _ P1.out
                          have P1_1 : V1.cell? ⟨w.heap.size + 1, 1, none⟩ = some (.int .u64 y) := cell_of_row _ _ _ _ _ _ P1.out
                          have ZR_0 : V1.cell? ⟨w.heap.size, 0, none⟩ = some (.int .u64 0) := cell_of_row _ _ _ _ _ _ ZR.out
                          have ZR_1 : V1.cell? ⟨w.heap.size, 1, none⟩ = some (.int .u64 0) := cell_of_row _ _ _ _ _ _ ZR.out
                          have M1_0 : V1.cell? ⟨wr.heap.size, 0, none⟩ = some (.int .u64 9223372036854775808) := cell_of_row _ _ _ _ _ _ M1.out
                          have M1_1 : V1.cell? ⟨wr.heap.size, 1, none⟩ = some (.int .u64 0) := cell_of_row _ _ _ _ _ _ M1.out
                          have zP1 := lt_of_heap P1.out
                          have zZR := lt_of_heap ZR.out
                          have zM1 := lt_of_heap M1.out
                          go_simp
                          go_wp2_with fail
                          refine (HC.out _).mono ?_
                          rintro e V2 ⟨rfl, hb2⟩
                          clear P1_0 P1_1 zP1 ZR_0 ZR_1 zZR M1_0 M1_1 zM1
                          have B2 : Hid (Below wr.heap.size wr V2) := by first | exact Lib.hid ((B1.out).trans (hb2.mono (by have := B1.out.size; first | assumption | (simp <;> omega) | (simp; done)))) | exact Lib.hid (((B1.out).alloc (B1.out.size) _).trans (hb2.mono (by have := B1.out.size; first | assumption | (simp <;> omega) | (simp; done)))) | exact Lib.hid ((((B1.out).alloc (B1.out.size) _).alloc (by have := B1.out.size; simp <;> omega) _).trans (hb2.mono (by have := B1.out.size; first | assumption | (simp <;> omega) | (simp; done)))) | exact Lib.hid (((((B1.out).alloc (B1.out.size) _).alloc (by have := B1.out.size; simp <;> omega) _).alloc (by have := B1.out.size; simp <;> omega) _).trans (hb2.mono (by have := B1.out.size; first | assumption | (simp <;> omega) | (simp; done))))
                          first | replace P1 := Lib.hid (row_call hb2 P1.out) | replace P1 := Lib.hid (row_call hb2 (row_alloc P1.out _)) | replace P1 := Lib.hid (row_call hb2 (row_alloc (row_alloc P1.out _) _)) | replace P1 := Lib.hid (row_call hb2 (row_alloc (row_alloc (row_alloc P1.out _) _) _))
                          first | replace ZR := Lib.hid (row_call hb2 ZR.out) | replace ZR := Lib.hid (row_call hb2 (row_alloc ZR.out _)) | replace ZR := Lib.hid (row_call hb2 (row_alloc (row_alloc ZR.out _) _)) | replace ZR := Lib.hid (row_call hb2 (row_alloc (row_alloc (row_alloc ZR.out _) _) _))
                          first | replace M1 := Lib.hid (row_call hb2 M1.out) | replace M1 := Lib.hid (row_call hb2 (row_alloc M1.out _)) | replace M1 := Lib.hid (row_call hb2 (row_alloc (row_alloc M1.out _) _)) | replace M1 := Lib.hid (row_call hb2 (row_alloc (row_alloc (row_alloc M1.out _) _) _))
                          clear hb2
                          have P1_0 : V2.cell? ⟨w.heap.size + 1, 0, none⟩ = some (.int .u64 x) := cell_of_row _ _ _ _ _ _ P1.out
                          have P1_1 : V2.cell? ⟨w.heap.size + 1, 1, none⟩ = some (.int .u64 y) := cell_of_row _ _ _ _ _ _ P1.out
                          have ZR_0 : V2.cell? ⟨w.heap.size, 0, none⟩ = some (.int .u64 0) := cell_of_row _ _ _ _ _ _ ZR.out
                          have ZR_1 : V2.cell? ⟨w.heap.size, 1, none⟩ = some (.int .u64 0) := cell_of_row _ _ _ _ _ _ ZR.out
                          have M1_0 : V2.cell? ⟨wr.heap.size, 0, none⟩ = some (.int .u64 9223372036854775808) := cell_of_row _ _ _ _ _ _ M1.out
                          have M1_1 : V2.cell? ⟨wr.heap.size, 1, none⟩ = some (.int .u64 0) := cell_of_row _ _ _ _ _ _ M1.out
                          have zP1 := lt_of_heap P1.out
                          have zZR := lt_of_heap ZR.out
                          have zM1 := lt_of_heap M1.out
                          have ZRf0 : V2.frozen? ⟨w.heap.size, 0, none⟩ = false := by simp [World.frozen?, ZR.out]
                          have ZRf1 : V2.frozen? ⟨w.heap.size, 1, none⟩ = false := by simp [World.frozen?, ZR.out]
                          have P1f0 : V2.frozen? ⟨w.heap.size + 1, 0, none⟩ = false := by simp [World.frozen?, P1.out]
                          have P1f1 : V2.frozen? ⟨w.heap.size + 1, 1, none⟩ = false := by simp [World.frozen?, P1.out]
                          go_simp
                          go_wp2
                          refine shut_ret (v := .tuple #[.agg #[.int .u64 0, .int .u64 0], .int .i64 8]) (by simp [results, Try.results11, go_sem, zZR, ZR_0, ZR_1]) rfl ⟨by rw [HR.out.1, HR.out.2, hi_zero, lo_zero]; rfl, ?_⟩
                          exact keep2 (HPX.out.below B2.out).b (Nat.le_refl _) _ _
                        · have HR := Lib.hid (HOK.out (by rw [ho, if_pos rfl]; exact decide_eq_false (by omega)))
                          have HNG := Lib.hid XN
                          have HR2 : Hid (hi (pNum s.data.toList) = hi (340282366920938463463374607431768211456 - v) ∧ lo (pNum s.data.toList) = lo (340282366920938463463374607431768211456 - v)) := by
                            show _ ∧ _
                            rw [HR.out.2, if_pos rfl]; exact ⟨rfl, rfl⟩
                          clear XC XN ex ey ho h hl
                          generalize hi (340282366920938463463374607431768211456 - v) = nh at *
                          generalize lo (340282366920938463463374607431768211456 - v) = nl at *
                          
                          have P1_0 : wr.cell? ⟨w.heap.size + 1, 0, none⟩ = some (.int .u64 x) := cell_of_row _ _ _ _ _ _ P1.out
                          have P1_1 : wr.cell? ⟨w.heap.size + 1, 1, none⟩ = some (.int .u64 y) := cell_of_row _ _ _ _ _ _ P1.out
                          have zP1 := lt_of_heap P1.out
                          have ZR_0 : wr.cell? ⟨w.heap.size, 0, none⟩ = some (.int .u64 0) := cell_of_row _ _ _ _ _ _ ZR.out
                          have ZR_1 : wr.cell? ⟨w.heap.size, 1, none⟩ = some (.int .u64 0) := cell_of_row _ _ _ _ _ _ ZR.out
                          have zZR := lt_of_heap ZR.out
                          go_wp2_with fail
                          refine (HC.out _).mono ?_
                          rintro e V1 ⟨rfl, hb1⟩
                          clear P1_0 P1_1 zP1 ZR_0 ZR_1 zZR
                          have nP1M1 := Lib.hid (lt_of_heap P1.out)
                          have nZRM1 := Lib.hid (lt_of_heap ZR.out)
                          have B1 := Lib.hid (((Below.refl wr.heap.size wr).alloc (Nat.le_refl _) _).trans (hb1.mono (by first | assumption | (simp <;> omega) | (simp; done))))
                          replace P1 := Lib.hid (row_call hb1 (row_alloc P1.out _))
                          replace ZR := Lib.hid (row_call hb1 (row_alloc ZR.out _))
                          have M1 := Lib.hid (row_call hb1 (heap_alloc_new _ _))
                          clear hb1
                          have P1_0 : V1.cell? ⟨w.heap.size + 1, 0, none⟩ = some (.int .u64 x) := cell_of_row _ _ _ _ _ _ P1.out
                          have P1_1 : V1.cell? ⟨w.heap.size + 1, 1, none⟩ = some (.int .u64 y) := cell_of_row _ _ _ _ _ _ P1.out
                          have ZR_0 : V1.cell? ⟨w.heap.size, 0, none⟩ = some (.int .u64 0) := cell_of_row _ _ _ _ _ _ ZR.out
                          have ZR_1 : V1.cell? ⟨w.heap.size, 1, none⟩ = some (.int .u64 0) := cell_of_row _ _ _ _ _ _ ZR.out
                          have M1_0 : V1.cell? ⟨wr.heap.size, 0, none⟩ = some (.int .u64 9223372036854775808) := cell_of_row _ _ _ _ _ _ M1.out
                          have M1_1 : V1.cell? ⟨wr.heap.size, 1, none⟩ = some (.int .u64 0) := cell_of_row _ _ _ _ _ _ M1.out
                          have zP1 := lt_of_heap P1.out
                          have zZR := lt_of_heap ZR.out
                          have zM1 := lt_of_heap M1.out
                          go_simp
                          go_wp2_with fail
                          refine (HNG.out _).mono ?_
                          rintro e V2 ⟨rfl, hb2⟩
                          clear P1_0 P1_1 zP1 ZR_0 ZR_1 zZR M1_0 M1_1 zM1
                          have B2 : Hid (Below wr.heap.size wr V2) := by first | exact Lib.hid ((B1.out).trans (hb2.mono (by have := B1.out.size; first | assumption | (simp <;> omega) | (simp; done)))) | exact Lib.hid (((B1.out).alloc (B1.out.size) _).trans (hb2.mono (by have := B1.out.size; first | assumption | (simp <;> omega) | (simp; done)))) | exact Lib.hid ((((B1.out).alloc (B1.out.size) _).alloc (by have := B1.out.size; simp <;> omega) _).trans (hb2.mono (by have := B1.out.size; first | assumption | (simp <;> omega) | (simp; done)))) | exact Lib.hid (((((B1.out).alloc (B1.out.size) _).alloc (by have := B1.out.size; simp <;> omega) _).alloc (by have := B1.out.size; simp <;> omega) _).trans (hb2.mono (by have := B1.out.size; first | assumption | (simp <;> omega) | (simp; done))))
                          first | replace P1 := Lib.hid (row_call hb2 P1.out) | replace P1 := Lib.hid (row_call hb2 (row_alloc P1.out _)) | replace P1 := Lib.hid (row_call hb2 (row_alloc (row_alloc P1.out _) _)) | replace P1 := Lib.hid (row_call hb2 (row_alloc (row_alloc (row_alloc P1.out _) _) _))
                          first | replace ZR := Lib.hid (row_call hb2 ZR.out) | replace ZR := Lib.hid (row_call hb2 (row_alloc ZR.out _)) | replace ZR := Lib.hid (row_call hb2 (row_alloc (row_alloc ZR.out _) _)) | replace ZR := Lib.hid (row_call hb2 (row_alloc (row_alloc (row_alloc ZR.out _) _) _))
                          first | replace M1 := Lib.hid (row_call hb2 M1.out) | replace M1 := Lib.hid (row_call hb2 (row_alloc M1.out _)) | replace M1 := Lib.hid (row_call hb2 (row_alloc (row_alloc M1.out _) _)) | replace M1 := Lib.hid (row_call hb2 (row_alloc (row_alloc (row_alloc M1.out _) _) _))
                          clear hb2
                          have P1_0 : V2.cell? ⟨w.heap.size + 1, 0, none⟩ = some (.int .u64 x) := cell_of_row _ _ _ _ _ _ P1.out
                          have P1_1 : V2.cell? ⟨w.heap.size + 1, 1, none⟩ = some (.int .u64 y) := cell_of_row _ _ _ _ _ _ P1.out
                          have ZR_0 : V2.cell? ⟨w.heap.size, 0, none⟩ = some (.int .u64 0) := cell_of_row _ _ _ _ _ _ ZR.out
                          have ZR_1 : V2.cell? ⟨w.heap.size, 1, none⟩ = some (.int .u64 0) := cell_of_row _ _ _ _ _ _ ZR.out
                          have M1_0 : V2.cell? ⟨wr.heap.size, 0, none⟩ = some (.int .u64 9223372036854775808) := cell_of_row _ _ _ _ _ _ M1.out
                          have M1_1 : V2.cell? ⟨wr.heap.size, 1, none⟩ = some (.int .u64 0) := cell_of_row _ _ _ _ _ _ M1.out
                          have zP1 := lt_of_heap P1.out
                          have zZR := lt_of_heap ZR.out
                          have zM1 := lt_of_heap M1.out
                          have ZRf0 : V2.frozen? ⟨w.heap.size, 0, none⟩ = false := by simp [World.frozen?, ZR.out]
                          have ZRf1 : V2.frozen? ⟨w.heap.size, 1, none⟩ = false := by simp [World.frozen?, ZR.out]
                          have P1f0 : V2.frozen? ⟨w.heap.size + 1, 0, none⟩ = false := by simp [World.frozen?, P1.out]
                          have P1f1 : V2.frozen? ⟨w.heap.size + 1, 1, none⟩ = false := by simp [World.frozen?, P1.out]
                          go_simp
                          go_wp2
                          refine shut_ret (v := .tuple #[.agg #[.int .u64 nh, .int .u64 nl], .int .i64 0]) (by simp [results, Try.results11, go_sem, zZR, zP1, ZR_0, ZR_1, P1_0, P1_1]) rfl ⟨by rw [HR.out.1, HR2.out.1, HR2.out.2]; rfl, ?_⟩
                          exact keep2 ((HPX.out.below B2.out).setX nh nl).b (Nat.le_refl _) _ _
                      · rw [show cmpI v 170141183460469231731687303715884105728 = 1 by unfold cmpI; rw [if_neg (by omega), if_neg (by omega)]] at XC
                        have HC := Lib.hid XC
                        have HR := Lib.hid (HOUT.out (by rw [ho]; cases m <;> exact decide_eq_true (by omega)))
                        clear XC XN ex ey ho h hl
                        
                        have P1_0 : wr.cell? ⟨w.heap.size + 1, 0, none⟩ = some (.int .u64 x) := cell_of_row _ _ _ _ _ _ P1.out
                        have P1_1 : wr.cell? ⟨w.heap.size + 1, 1, none⟩ = some (.int .u64 y) := cell_of_row _ _ _ _ _ _ P1.out
                        have zP1 := lt_of_heap P1.out
                        have ZR_0 : wr.cell? ⟨w.heap.size, 0, none⟩ = some (.int .u64 0) := cell_of_row _ _ _ _ _ _ ZR.out
                        have ZR_1 : wr.cell? ⟨w.heap.size, 1, none⟩ = some (.int .u64 0) := cell_of_row _ _ _ _ _ _ ZR.out
                        have zZR := lt_of_heap ZR.out
                        go_wp2_with fail
                        refine (HC.out _).mono ?_
                        rintro e V1 ⟨rfl, hb1⟩
                        clear P1_0 P1_1 zP1 ZR_0 ZR_1 zZR
                        have nP1M1 := Lib.hid (lt_of_heap P1.out)
                        have nZRM1 := Lib.hid (lt_of_heap ZR.out)
                        have B1 := Lib.hid (((Below.refl wr.heap.size wr).alloc (Nat.le_refl _) _).trans (hb1.mono (by first | assumption | (simp <;> omega) | (simp; done))))
                        replace P1 := Lib.hid (row_call hb1 (row_alloc P1.out _))
                        replace ZR := Lib.hid (row_call hb1 (row_alloc ZR.out _))
                        have M1 := Lib.hid (row_call hb1 (heap_alloc_new _ _))
                        clear hb1
                        have P1_0 : V1.cell? ⟨w.heap.size + 1, 0, none⟩ = some (.int .u64 x) := cell_of_row _ _ _ _ _ _ P1.out
                        have P1_1 : V1.cell? ⟨w.heap.size + 1, 1, none⟩ = some (.int .u64 y) := cell_of_row _ _ _ _ _ _ P1.out
                        have ZR_0 : V1.cell? ⟨w.heap.size, 0, none⟩ = some (.int .u64 0) := cell_of_row _ _ _ _ _ _ ZR.out
                        have ZR_1 : V1.cell? ⟨w.heap.size, 1, none⟩ = some (.int .u64 0) := cell_of_row _ _ _ _ _ _ ZR.out
                        have M1_0 : V1.cell? ⟨wr.heap.size, 0, none⟩ = some (.int .u64 9223372036854775808) := cell_of_row _ _ _ _ _ _ M1.out
                        have M1_1 : V1.cell? ⟨wr.heap.size, 1, none⟩ = some (.int .u64 0) := cell_of_row _ _ _ _ _ _ M1.out
                        have zP1 := lt_of_heap P1.out
                        have zZR := lt_of_heap ZR.out
                        have zM1 := lt_of_heap M1.out
                        have ZRf0 : V1.frozen? ⟨w.heap.size, 0, none⟩ = false := by simp [World.frozen?, ZR.out]
                        have ZRf1 : V1.frozen? ⟨w.heap.size, 1, none⟩ = false := by simp [World.frozen?, ZR.out]
                        have P1f0 : V1.frozen? ⟨w.heap.size + 1, 0, none⟩ = false := by simp [World.frozen?, P1.out]
                        have P1f1 : V1.frozen? ⟨w.heap.size + 1, 1, none⟩ = false := by simp [World.frozen?, P1.out]
                        go_simp
                        go_wp2
                        refine shut_ret (v := .tuple #[.agg #[.int .u64 0, .int .u64 0], .int .i64 8]) (by simp [results, Try.results11, go_sem, zZR, ZR_0, ZR_1]) rfl ⟨by rw [HR.out.1, HR.out.2, hi_zero, lo_zero]; rfl, ?_⟩
                        exact keep2 (HPX.out.below B1.out).b (Nat.le_refl _) _ _
                    · have h128 := i2 rfl
                      have HR := Lib.hid (HOUT.out (by rw [ho]; cases m <;> exact decide_eq_true (by omega)))
                      clear i1 i2 ho h128 ux uy
                      have z0 : wr.cell? ⟨w.heap.size, 0, none⟩ = some (.int .u64 0) := cell_of_row _ _ _ _ _ _ ZR.out
                      have z1 : wr.cell? ⟨w.heap.size, 1, none⟩ = some (.int .u64 0) := cell_of_row _ _ _ _ _ _ ZR.out
                      have zf0 : wr.frozen? ⟨w.heap.size, 0, none⟩ = false := by simp [World.frozen?, ZR.out]
                      have zf1 : wr.frozen? ⟨w.heap.size, 1, none⟩ = false := by simp [World.frozen?, ZR.out]
                      have zs := lt_of_heap ZR.out
                      go_wp2
                      refine shut_ret (v := .tuple #[.agg #[.int .u64 0, .int .u64 0], .int .i64 8]) (by simp [results, Try.results11, go_sem, z0, z1, zs]) rfl ⟨by rw [HR.out.1, HR.out.2, hi_zero, lo_zero]; rfl, ?_⟩
                      exact (keep2 HPX.out.b (Nat.le_refl _) _ _).alloc (by simp; omega) _
        · have HX := Lib.hid (HF.out h7)
          exact absurd (HXX.out.symm.trans HX.out) (by decide)
end Go.Proofs.Ytlpbkdihjpceoaa
