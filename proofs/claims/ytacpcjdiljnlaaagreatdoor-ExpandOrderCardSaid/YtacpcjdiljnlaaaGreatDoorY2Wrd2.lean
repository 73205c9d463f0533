/- Several texts in one: WrdH. -/
import Derived.Test.YtacpcjdiljnlaaaGreatDoorY2Ct1
import Derived.Test.YtacpcjdiljnlaaaGreatDoorY2Wrd1
namespace Go.Proofs.YtacpcjdiljnlaaaGreatDoor
set_option linter.unusedVariables false
set_option linter.unusedSimpArgs false
open Go.ChangeShapes Go.WideShapes Go.ChangeAt Go.RowKit
def momF (t : List UInt8) : Bool := decide (t.length = 19) && ((t.getD 4 0).toNat == 45) && ((t.getD 7 0).toNat == 45) && ((t.getD 10 0).toNat == 84) && ((t.getD 13 0).toNat == 58) && ((t.getD 16 0).toNat == 58)
def yrS (neg : Bool) (y : Int) : Int := if neg = true then -y else y
@[irreducible] def momS (neg : Bool) (y m d h i s : Int) : Int × Int :=
  if y < 0 ∨ m < 0 ∨ d < 0 ∨ h < 0 ∨ i < 0 ∨ s < 0 then (0, 2) else if neg = true ∧ y = 0 then (0, 2) else (seT (yrS neg y) m d h i s 0, ckT (yrS neg y) m d h i s 0)
@[irreducible] def momR (L : List UInt8) : Int × Int :=
  if momF (bodyN L) = true then momS (negB L) (dgV (sub (bodyN L) 0 4)) (dgV (sub (bodyN L) 5 2)) (dgV (sub (bodyN L) 8 2)) (dgV (sub (bodyN L) 11 2)) (dgV (sub (bodyN L) 14 2)) (dgV (sub (bodyN L) 17 2)) else (0, 2)
theorem mom_no {L : List UInt8} (h : momF (bodyN L) = false) : momR L = (0, 2) := by unfold momR; exact if_neg (by rw [h]; decide)
theorem mom_ok {L : List UInt8} (h : momF (bodyN L) = true) : momR L = momS (negB L) (dgV (sub (bodyN L) 0 4)) (dgV (sub (bodyN L) 5 2)) (dgV (sub (bodyN L) 8 2)) (dgV (sub (bodyN L) 11 2)) (dgV (sub (bodyN L) 14 2)) (dgV (sub (bodyN L) 17 2)) := by unfold momR; exact if_pos h
theorem momF_len {t : List UInt8} (h : ¬ t.length = 19) : momF t = false := by unfold momF; rw [decide_eq_false h]; rfl
theorem momF_all {t : List UInt8} {a b c d e : Nat} (h : t.length = 19) (ha : (t[4]'(by omega)).toNat = a) (hb : (t[7]'(by omega)).toNat = b) (hc : (t[10]'(by omega)).toNat = c) (hd : (t[13]'(by omega)).toNat = d) (he : (t[16]'(by omega)).toNat = e) :
    momF t = (a == 45 && b == 45 && c == 84 && d == 58 && e == 58) := by
  unfold momF
  rw [getD_of (by omega) ha, getD_of (by omega) hb, getD_of (by omega) hc, getD_of (by omega) hd, getD_of (by omega) he, decide_eq_true h]
  simp [Bool.and_assoc]
theorem momS_odd {neg : Bool} {y m d h i s : Int} (hh : y < 0 ∨ m < 0 ∨ d < 0 ∨ h < 0 ∨ i < 0 ∨ s < 0) : momS neg y m d h i s = (0, 2) := by unfold momS; exact if_pos hh
theorem momS_zero {m d h i s : Int} (hh : ¬ ((0 : Int) < 0 ∨ m < 0 ∨ d < 0 ∨ h < 0 ∨ i < 0 ∨ s < 0)) : momS true 0 m d h i s = (0, 2) := by unfold momS; rw [if_neg hh]; exact if_pos ⟨rfl, rfl⟩
theorem momS_neg {y m d h i s : Int} (hh : ¬ (y < 0 ∨ m < 0 ∨ d < 0 ∨ h < 0 ∨ i < 0 ∨ s < 0)) (hy : y ≠ 0) : momS true y m d h i s = (seT (-y) m d h i s 0, ckT (-y) m d h i s 0) := by unfold momS; rw [if_neg hh, if_neg (fun h => hy h.2)]; rfl
theorem momS_pos {y m d h i s : Int} (hh : ¬ (y < 0 ∨ m < 0 ∨ d < 0 ∨ h < 0 ∨ i < 0 ∨ s < 0)) : momS false y m d h i s = (seT y m d h i s 0, ckT y m d h i s 0) := by unfold momS; rw [if_neg hh]; rfl
set_option maxHeartbeats 3200000 in
set_option maxRecDepth 100000 in
theorem rMom_nil (L : List UInt8) (hL : L.length ≤ 100000) (h0 : L.length = 0) (w : World) : Calls Tryz.prog 124 #[.string (bs L)] w fun e w' => e = .returned (.tuple #[.int .i64 (momR L).1, .int .i64 (momR L).2]) ∧ Below w.heap.size w w' := by
  obtain rfl : L = [] := by rw [← List.length_eq_zero_iff]; exact h0
  have E := Lib.hid (mom_no (L := []) (by rfl))
  have hS := bs_size []
  clear h0
  go_enter Tryz.func124, Tryz.ntmps124
  go_wp2
  go_ret2
  exact ⟨by rw [E.out]; try rfl, by go_grown⟩
set_option maxHeartbeats 3200000 in
set_option maxRecDepth 100000 in
theorem rMom_pos (L : List UInt8) (hL : L.length ≤ 100000) (h0 : 0 < L.length) (hn : negB L = false) (w : World) : Calls Tryz.prog 124 #[.string (bs L)] w fun e w' => e = .returned (.tuple #[.int .i64 (momR L).1, .int .i64 (momR L).2]) ∧ Below w.heap.size w w' := by
  have hS := bs_size L
  obtain ⟨c0, hc0⟩ : ∃ c : Nat, L[0].toNat = c := ⟨_, rfl⟩
  have hb0 := byte_bs L 0 h0 (by rw [hS]; exact h0) hc0
  have hn1 := (neg_at h0).1
  rw [hn, hc0] at hn1
  obtain ⟨T, hT⟩ : ∃ T, bodyN L = T := ⟨_, rfl⟩
  have F0 := fun h => mom_no (L := L) h
  have F1 := fun h => mom_ok (L := L) h
  rw [hT] at F0
  rw [hT, hn] at F1
  have hc45 : ¬ c0 = 45 := by simpa using hn1.symm
  have hc45b : ((c0 : Int) == 45) = false := by rw [beq_eq_false_iff_ne]; omega
  have hbod := body_pos hn
  rw [hT] at hbod
  subst hbod
  have hST := hS
  have hTL := hL
  replace hT := Lib.hid hT
  replace hc0 := Lib.hid hc0
  replace hn := Lib.hid hn
  replace hn1 := Lib.hid hn1
  by_cases hlen : T.length = 19
  · have hST2 : (bs T).size = 19 := hST.trans hlen
    obtain ⟨a, ha⟩ : ∃ a : Nat, (T[4]'(by omega)).toNat = a := ⟨_, rfl⟩
    have hba := byte_bs T 4 (by omega) (by omega) ha
    obtain ⟨b, hb⟩ : ∃ b : Nat, (T[7]'(by omega)).toNat = b := ⟨_, rfl⟩
    have hbb := byte_bs T 7 (by omega) (by omega) hb
    obtain ⟨c, hc⟩ : ∃ c : Nat, (T[10]'(by omega)).toNat = c := ⟨_, rfl⟩
    have hbc := byte_bs T 10 (by omega) (by omega) hc
    obtain ⟨e, he⟩ : ∃ e : Nat, (T[13]'(by omega)).toNat = e := ⟨_, rfl⟩
    have hbe := byte_bs T 13 (by omega) (by omega) he
    obtain ⟨f, hf⟩ : ∃ f : Nat, (T[16]'(by omega)).toNat = f := ⟨_, rfl⟩
    have hbf := byte_bs T 16 (by omega) (by omega) hf
    have hF := momF_all hlen ha hb hc he hf
    have Dy := rDigits_any T 0 4 (by omega) (by omega) (by decide) (A := 0) (N := 4) rfl rfl
    have By := dgV_bd (t := sub T 0 4) (by rw [sub_len T 0 4 (by omega)]; decide)
    have Dm := rDigits_any T 5 2 (by omega) (by omega) (by decide) (A := 5) (N := 2) rfl rfl
    have Bm := dgV_bd (t := sub T 5 2) (by rw [sub_len T 5 2 (by omega)]; decide)
    have Dd := rDigits_any T 8 2 (by omega) (by omega) (by decide) (A := 8) (N := 2) rfl rfl
    have Bd := dgV_bd (t := sub T 8 2) (by rw [sub_len T 8 2 (by omega)]; decide)
    have Dh := rDigits_any T 11 2 (by omega) (by omega) (by decide) (A := 11) (N := 2) rfl rfl
    have Bh := dgV_bd (t := sub T 11 2) (by rw [sub_len T 11 2 (by omega)]; decide)
    have Di := rDigits_any T 14 2 (by omega) (by omega) (by decide) (A := 14) (N := 2) rfl rfl
    have Bi := dgV_bd (t := sub T 14 2) (by rw [sub_len T 14 2 (by omega)]; decide)
    have Ds := rDigits_any T 17 2 (by omega) (by omega) (by decide) (A := 17) (N := 2) rfl rfl
    have Bs := dgV_bd (t := sub T 17 2) (by rw [sub_len T 17 2 (by omega)]; decide)
    by_cases ka : a = 45
    · subst ka
      by_cases kb : b = 45
      · subst kb
        by_cases kc : c = 84
        · subst kc
          by_cases ke : e = 58
          · subst ke
            by_cases kf : f = 58
            · subst kf
              have FE := F1 (by rw [hF]; rfl)
              clear F0 F1 hF
              replace ha := Lib.hid ha
              replace hb := Lib.hid hb
              replace hc := Lib.hid hc
              replace he := Lib.hid he
              replace hf := Lib.hid hf
              generalize dgV (sub T 0 4) = y at *
              have Hy := Lib.hid Dy
              clear Dy
              generalize dgV (sub T 5 2) = m at *
              have Hm := Lib.hid Dm
              clear Dm
              generalize dgV (sub T 8 2) = d at *
              have Hd := Lib.hid Dd
              clear Dd
              generalize dgV (sub T 11 2) = h at *
              have Hh := Lib.hid Dh
              clear Dh
              generalize dgV (sub T 14 2) = i at *
              have Hi := Lib.hid Di
              clear Di
              generalize dgV (sub T 17 2) = s at *
              have Hs := Lib.hid Ds
              clear Ds
              by_cases ny : y < 0
              · have E := Lib.hid (FE.trans (momS_odd (by omega)))
                clear FE
                go_enter Tryz.func124, Tryz.ntmps124
                go_wp2_with fail
                refine (Hy.out _).mono ?_
                rintro e w1 ⟨rfl, rfl⟩
                go_wp2_with fail
                refine (Hm.out _).mono ?_
                rintro e w1 ⟨rfl, rfl⟩
                go_wp2_with fail
                refine (Hd.out _).mono ?_
                rintro e w1 ⟨rfl, rfl⟩
                go_wp2_with fail
                refine (Hh.out _).mono ?_
                rintro e w1 ⟨rfl, rfl⟩
                go_wp2_with fail
                refine (Hi.out _).mono ?_
                rintro e w1 ⟨rfl, rfl⟩
                go_wp2_with fail
                refine (Hs.out _).mono ?_
                rintro e w1 ⟨rfl, rfl⟩
                go_wp2_with fail
                refine wp_loop_rounds 2 ?_
                rw [rounds_succ]
                go_wp2_with fail
                go_ret2
                exact ⟨by rw [E.out]; try rfl, by go_grown⟩
              · by_cases nm : m < 0
                · have E := Lib.hid (FE.trans (momS_odd (by omega)))
                  clear FE
                  go_enter Tryz.func124, Tryz.ntmps124
                  go_wp2_with fail
                  refine (Hy.out _).mono ?_
                  rintro e w1 ⟨rfl, rfl⟩
                  go_wp2_with fail
                  refine (Hm.out _).mono ?_
                  rintro e w1 ⟨rfl, rfl⟩
                  go_wp2_with fail
                  refine (Hd.out _).mono ?_
                  rintro e w1 ⟨rfl, rfl⟩
                  go_wp2_with fail
                  refine (Hh.out _).mono ?_
                  rintro e w1 ⟨rfl, rfl⟩
                  go_wp2_with fail
                  refine (Hi.out _).mono ?_
                  rintro e w1 ⟨rfl, rfl⟩
                  go_wp2_with fail
                  refine (Hs.out _).mono ?_
                  rintro e w1 ⟨rfl, rfl⟩
                  go_wp2_with fail
                  refine wp_loop_rounds 3 ?_
                  rw [rounds_succ]
                  go_wp2_with fail
                  rw [rounds_succ]
                  go_wp2_with fail
                  go_ret2
                  exact ⟨by rw [E.out]; try rfl, by go_grown⟩
                · by_cases nd : d < 0
                  · have E := Lib.hid (FE.trans (momS_odd (by omega)))
                    clear FE
                    go_enter Tryz.func124, Tryz.ntmps124
                    go_wp2_with fail
                    refine (Hy.out _).mono ?_
                    rintro e w1 ⟨rfl, rfl⟩
                    go_wp2_with fail
                    refine (Hm.out _).mono ?_
                    rintro e w1 ⟨rfl, rfl⟩
                    go_wp2_with fail
                    refine (Hd.out _).mono ?_
                    rintro e w1 ⟨rfl, rfl⟩
                    go_wp2_with fail
                    refine (Hh.out _).mono ?_
                    rintro e w1 ⟨rfl, rfl⟩
                    go_wp2_with fail
                    refine (Hi.out _).mono ?_
                    rintro e w1 ⟨rfl, rfl⟩
                    go_wp2_with fail
                    refine (Hs.out _).mono ?_
                    rintro e w1 ⟨rfl, rfl⟩
                    go_wp2_with fail
                    refine wp_loop_rounds 4 ?_
                    rw [rounds_succ]
                    go_wp2_with fail
                    rw [rounds_succ]
                    go_wp2_with fail
                    rw [rounds_succ]
                    go_wp2_with fail
                    go_ret2
                    exact ⟨by rw [E.out]; try rfl, by go_grown⟩
                  · by_cases nh : h < 0
                    · have E := Lib.hid (FE.trans (momS_odd (by omega)))
                      clear FE
                      go_enter Tryz.func124, Tryz.ntmps124
                      go_wp2_with fail
                      refine (Hy.out _).mono ?_
                      rintro e w1 ⟨rfl, rfl⟩
                      go_wp2_with fail
                      refine (Hm.out _).mono ?_
                      rintro e w1 ⟨rfl, rfl⟩
                      go_wp2_with fail
                      refine (Hd.out _).mono ?_
                      rintro e w1 ⟨rfl, rfl⟩
                      go_wp2_with fail
                      refine (Hh.out _).mono ?_
                      rintro e w1 ⟨rfl, rfl⟩
                      go_wp2_with fail
                      refine (Hi.out _).mono ?_
                      rintro e w1 ⟨rfl, rfl⟩
                      go_wp2_with fail
                      refine (Hs.out _).mono ?_
                      rintro e w1 ⟨rfl, rfl⟩
                      go_wp2_with fail
                      refine wp_loop_rounds 5 ?_
                      rw [rounds_succ]
                      go_wp2_with fail
                      rw [rounds_succ]
                      go_wp2_with fail
                      rw [rounds_succ]
                      go_wp2_with fail
                      rw [rounds_succ]
                      go_wp2_with fail
                      go_ret2
                      exact ⟨by rw [E.out]; try rfl, by go_grown⟩
                    · by_cases ni : i < 0
                      · have E := Lib.hid (FE.trans (momS_odd (by omega)))
                        clear FE
                        go_enter Tryz.func124, Tryz.ntmps124
                        go_wp2_with fail
                        refine (Hy.out _).mono ?_
                        rintro e w1 ⟨rfl, rfl⟩
                        go_wp2_with fail
                        refine (Hm.out _).mono ?_
                        rintro e w1 ⟨rfl, rfl⟩
                        go_wp2_with fail
                        refine (Hd.out _).mono ?_
                        rintro e w1 ⟨rfl, rfl⟩
                        go_wp2_with fail
                        refine (Hh.out _).mono ?_
                        rintro e w1 ⟨rfl, rfl⟩
                        go_wp2_with fail
                        refine (Hi.out _).mono ?_
                        rintro e w1 ⟨rfl, rfl⟩
                        go_wp2_with fail
                        refine (Hs.out _).mono ?_
                        rintro e w1 ⟨rfl, rfl⟩
                        go_wp2_with fail
                        refine wp_loop_rounds 6 ?_
                        rw [rounds_succ]
                        go_wp2_with fail
                        rw [rounds_succ]
                        go_wp2_with fail
                        rw [rounds_succ]
                        go_wp2_with fail
                        rw [rounds_succ]
                        go_wp2_with fail
                        rw [rounds_succ]
                        go_wp2_with fail
                        go_ret2
                        exact ⟨by rw [E.out]; try rfl, by go_grown⟩
                      · by_cases ns : s < 0
                        · have E := Lib.hid (FE.trans (momS_odd (by omega)))
                          clear FE
                          go_enter Tryz.func124, Tryz.ntmps124
                          go_wp2_with fail
                          refine (Hy.out _).mono ?_
                          rintro e w1 ⟨rfl, rfl⟩
                          go_wp2_with fail
                          refine (Hm.out _).mono ?_
                          rintro e w1 ⟨rfl, rfl⟩
                          go_wp2_with fail
                          refine (Hd.out _).mono ?_
                          rintro e w1 ⟨rfl, rfl⟩
                          go_wp2_with fail
                          refine (Hh.out _).mono ?_
                          rintro e w1 ⟨rfl, rfl⟩
                          go_wp2_with fail
                          refine (Hi.out _).mono ?_
                          rintro e w1 ⟨rfl, rfl⟩
                          go_wp2_with fail
                          refine (Hs.out _).mono ?_
                          rintro e w1 ⟨rfl, rfl⟩
                          go_wp2_with fail
                          refine wp_loop_rounds 7 ?_
                          rw [rounds_succ]
                          go_wp2_with fail
                          rw [rounds_succ]
                          go_wp2_with fail
                          rw [rounds_succ]
                          go_wp2_with fail
                          rw [rounds_succ]
                          go_wp2_with fail
                          rw [rounds_succ]
                          go_wp2_with fail
                          rw [rounds_succ]
                          go_wp2_with fail
                          go_ret2
                          exact ⟨by rw [E.out]; try rfl, by go_grown⟩
                        · have hno : ¬ (y < 0 ∨ m < 0 ∨ d < 0 ∨ h < 0 ∨ i < 0 ∨ s < 0) := by omega
                          have E := Lib.hid (FE.trans (momS_pos hno))
                          have HZ := Lib.hid (rtSecs_any y m d h i s 0)
                          clear FE hno
                          go_enter Tryz.func124, Tryz.ntmps124
                          go_wp2_with fail
                          refine (Hy.out _).mono ?_
                          rintro e w1 ⟨rfl, rfl⟩
                          go_wp2_with fail
                          refine (Hm.out _).mono ?_
                          rintro e w1 ⟨rfl, rfl⟩
                          go_wp2_with fail
                          refine (Hd.out _).mono ?_
                          rintro e w1 ⟨rfl, rfl⟩
                          go_wp2_with fail
                          refine (Hh.out _).mono ?_
                          rintro e w1 ⟨rfl, rfl⟩
                          go_wp2_with fail
                          refine (Hi.out _).mono ?_
                          rintro e w1 ⟨rfl, rfl⟩
                          go_wp2_with fail
                          refine (Hs.out _).mono ?_
                          rintro e w1 ⟨rfl, rfl⟩
                          go_wp2_with fail
                          refine wp_loop_rounds 8 ?_
                          rw [rounds_succ]
                          go_wp2_with fail
                          rw [rounds_succ]
                          go_wp2_with fail
                          rw [rounds_succ]
                          go_wp2_with fail
                          rw [rounds_succ]
                          go_wp2_with fail
                          rw [rounds_succ]
                          go_wp2_with fail
                          rw [rounds_succ]
                          go_wp2_with fail
                          rw [rounds_succ]
                          go_wp2_with fail
                          refine (HZ.out _).mono ?_
                          rintro e w2 ⟨rfl, hb2⟩
                          go_wp2
                          go_ret2
                          exact ⟨by rw [E.out]; try rfl, by have hb3 := hb2; exact Below.trans (by go_grown) (hb3.mono (by simp))⟩
            · have E := Lib.hid (F0 (by rw [hF]; simp; omega))
              have k1 : ((f : Int) == 58) = false := beq_eq_false_iff_ne.2 (by omega)
              have k2 : ((f : Int) != 58) = true := bne_iff_ne.2 (by omega)
              clear F0 F1 hF
              replace ha := Lib.hid ha
              replace hb := Lib.hid hb
              replace hc := Lib.hid hc
              replace he := Lib.hid he
              replace hf := Lib.hid hf
              clear Dy By
              clear Dm Bm
              clear Dd Bd
              clear Dh Bh
              clear Di Bi
              clear Ds Bs
              go_enter Tryz.func124, Tryz.ntmps124
              go_wp2
              go_ret2
              exact ⟨by rw [E.out]; try rfl, by go_grown⟩
          · have E := Lib.hid (F0 (by rw [hF]; simp; omega))
            have k1 : ((e : Int) == 58) = false := beq_eq_false_iff_ne.2 (by omega)
            have k2 : ((e : Int) != 58) = true := bne_iff_ne.2 (by omega)
            clear F0 F1 hF
            replace ha := Lib.hid ha
            replace hb := Lib.hid hb
            replace hc := Lib.hid hc
            replace he := Lib.hid he
            replace hf := Lib.hid hf
            clear Dy By
            clear Dm Bm
            clear Dd Bd
            clear Dh Bh
            clear Di Bi
            clear Ds Bs
            go_enter Tryz.func124, Tryz.ntmps124
            go_wp2
            go_ret2
            exact ⟨by rw [E.out]; try rfl, by go_grown⟩
        · have E := Lib.hid (F0 (by rw [hF]; simp; omega))
          have k1 : ((c : Int) == 84) = false := beq_eq_false_iff_ne.2 (by omega)
          have k2 : ((c : Int) != 84) = true := bne_iff_ne.2 (by omega)
          clear F0 F1 hF
          replace ha := Lib.hid ha
          replace hb := Lib.hid hb
          replace hc := Lib.hid hc
          replace he := Lib.hid he
          replace hf := Lib.hid hf
          clear Dy By
          clear Dm Bm
          clear Dd Bd
          clear Dh Bh
          clear Di Bi
          clear Ds Bs
          go_enter Tryz.func124, Tryz.ntmps124
          go_wp2
          go_ret2
          exact ⟨by rw [E.out]; try rfl, by go_grown⟩
      · have E := Lib.hid (F0 (by rw [hF]; simp; omega))
        have k1 : ((b : Int) == 45) = false := beq_eq_false_iff_ne.2 (by omega)
        have k2 : ((b : Int) != 45) = true := bne_iff_ne.2 (by omega)
        clear F0 F1 hF
        replace ha := Lib.hid ha
        replace hb := Lib.hid hb
        replace hc := Lib.hid hc
        replace he := Lib.hid he
        replace hf := Lib.hid hf
        clear Dy By
        clear Dm Bm
        clear Dd Bd
        clear Dh Bh
        clear Di Bi
        clear Ds Bs
        go_enter Tryz.func124, Tryz.ntmps124
        go_wp2
        go_ret2
        exact ⟨by rw [E.out]; try rfl, by go_grown⟩
    · have E := Lib.hid (F0 (by rw [hF]; simp; omega))
      have k1 : ((a : Int) == 45) = false := beq_eq_false_iff_ne.2 (by omega)
      have k2 : ((a : Int) != 45) = true := bne_iff_ne.2 (by omega)
      clear F0 F1 hF
      replace ha := Lib.hid ha
      replace hb := Lib.hid hb
      replace hc := Lib.hid hc
      replace he := Lib.hid he
      replace hf := Lib.hid hf
      clear Dy By
      clear Dm Bm
      clear Dd Bd
      clear Dh Bh
      clear Di Bi
      clear Ds Bs
      go_enter Tryz.func124, Tryz.ntmps124
      go_wp2
      go_ret2
      exact ⟨by rw [E.out]; try rfl, by go_grown⟩
  · have E := Lib.hid (F0 (momF_len hlen))
    have k1 : ((T.length : Int) != 19) = true := bne_iff_ne.2 (by omega)
    have k2 : ((T.length : Int) == 19) = false := beq_eq_false_iff_ne.2 (by omega)
    clear F0 F1
    go_enter Tryz.func124, Tryz.ntmps124
    go_wp2
    go_ret2
    exact ⟨by rw [E.out]; try rfl, by go_grown⟩
set_option maxHeartbeats 3200000 in
set_option maxRecDepth 100000 in
theorem rMom_neg (L : List UInt8) (hL : L.length ≤ 100000) (h0 : 0 < L.length) (hn : negB L = true) (w : World) : Calls Tryz.prog 124 #[.string (bs L)] w fun e w' => e = .returned (.tuple #[.int .i64 (momR L).1, .int .i64 (momR L).2]) ∧ Below w.heap.size w w' := by
  have hS := bs_size L
  obtain ⟨c0, hc0⟩ : ∃ c : Nat, L[0].toNat = c := ⟨_, rfl⟩
  have hb0 := byte_bs L 0 h0 (by rw [hS]; exact h0) hc0
  have hn1 := (neg_at h0).1
  rw [hn, hc0] at hn1
  obtain ⟨T, hT⟩ : ∃ T, bodyN L = T := ⟨_, rfl⟩
  have F0 := fun h => mom_no (L := L) h
  have F1 := fun h => mom_ok (L := L) h
  rw [hT] at F0
  rw [hT, hn] at F1
  have hc45 : c0 = 45 := by simpa using hn1.symm
  subst hc45
  have hbod := (body_neg hn).1
  rw [hT] at hbod
  have hsl := fun W => slice_from L 1 h0 (A := 1) rfl W
  rw [← hbod] at hsl
  have hTL : T.length ≤ 100000 := by rw [hbod]; simp; omega
  replace hbod := Lib.hid hbod
  have hST := bs_size T
  replace hT := Lib.hid hT
  replace hc0 := Lib.hid hc0
  replace hn := Lib.hid hn
  replace hn1 := Lib.hid hn1
  by_cases hlen : T.length = 19
  · have hST2 : (bs T).size = 19 := hST.trans hlen
    obtain ⟨a, ha⟩ : ∃ a : Nat, (T[4]'(by omega)).toNat = a := ⟨_, rfl⟩
    have hba := byte_bs T 4 (by omega) (by omega) ha
    obtain ⟨b, hb⟩ : ∃ b : Nat, (T[7]'(by omega)).toNat = b := ⟨_, rfl⟩
    have hbb := byte_bs T 7 (by omega) (by omega) hb
    obtain ⟨c, hc⟩ : ∃ c : Nat, (T[10]'(by omega)).toNat = c := ⟨_, rfl⟩
    have hbc := byte_bs T 10 (by omega) (by omega) hc
    obtain ⟨e, he⟩ : ∃ e : Nat, (T[13]'(by omega)).toNat = e := ⟨_, rfl⟩
    have hbe := byte_bs T 13 (by omega) (by omega) he
    obtain ⟨f, hf⟩ : ∃ f : Nat, (T[16]'(by omega)).toNat = f := ⟨_, rfl⟩
    have hbf := byte_bs T 16 (by omega) (by omega) hf
    have hF := momF_all hlen ha hb hc he hf
    have Dy := rDigits_any T 0 4 (by omega) (by omega) (by decide) (A := 0) (N := 4) rfl rfl
    have By := dgV_bd (t := sub T 0 4) (by rw [sub_len T 0 4 (by omega)]; decide)
    have Dm := rDigits_any T 5 2 (by omega) (by omega) (by decide) (A := 5) (N := 2) rfl rfl
    have Bm := dgV_bd (t := sub T 5 2) (by rw [sub_len T 5 2 (by omega)]; decide)
    have Dd := rDigits_any T 8 2 (by omega) (by omega) (by decide) (A := 8) (N := 2) rfl rfl
    have Bd := dgV_bd (t := sub T 8 2) (by rw [sub_len T 8 2 (by omega)]; decide)
    have Dh := rDigits_any T 11 2 (by omega) (by omega) (by decide) (A := 11) (N := 2) rfl rfl
    have Bh := dgV_bd (t := sub T 11 2) (by rw [sub_len T 11 2 (by omega)]; decide)
    have Di := rDigits_any T 14 2 (by omega) (by omega) (by decide) (A := 14) (N := 2) rfl rfl
    have Bi := dgV_bd (t := sub T 14 2) (by rw [sub_len T 14 2 (by omega)]; decide)
    have Ds := rDigits_any T 17 2 (by omega) (by omega) (by decide) (A := 17) (N := 2) rfl rfl
    have Bs := dgV_bd (t := sub T 17 2) (by rw [sub_len T 17 2 (by omega)]; decide)
    by_cases ka : a = 45
    · subst ka
      by_cases kb : b = 45
      · subst kb
        by_cases kc : c = 84
        · subst kc
          by_cases ke : e = 58
          · subst ke
            by_cases kf : f = 58
            · subst kf
              have FE := F1 (by rw [hF]; rfl)
              clear F0 F1 hF
              replace ha := Lib.hid ha
              replace hb := Lib.hid hb
              replace hc := Lib.hid hc
              replace he := Lib.hid he
              replace hf := Lib.hid hf
              generalize dgV (sub T 0 4) = y at *
              have Hy := Lib.hid Dy
              clear Dy
              generalize dgV (sub T 5 2) = m at *
              have Hm := Lib.hid Dm
              clear Dm
              generalize dgV (sub T 8 2) = d at *
              have Hd := Lib.hid Dd
              clear Dd
              generalize dgV (sub T 11 2) = h at *
              have Hh := Lib.hid Dh
              clear Dh
              generalize dgV (sub T 14 2) = i at *
              have Hi := Lib.hid Di
              clear Di
              generalize dgV (sub T 17 2) = s at *
              have Hs := Lib.hid Ds
              clear Ds
              by_cases ny : y < 0
              · have E := Lib.hid (FE.trans (momS_odd (by omega)))
                clear FE
                go_enter Tryz.func124, Tryz.ntmps124
                go_wp2_with fail
                refine (Hy.out _).mono ?_
                rintro e w1 ⟨rfl, rfl⟩
                go_wp2_with fail
                refine (Hm.out _).mono ?_
                rintro e w1 ⟨rfl, rfl⟩
                go_wp2_with fail
                refine (Hd.out _).mono ?_
                rintro e w1 ⟨rfl, rfl⟩
                go_wp2_with fail
                refine (Hh.out _).mono ?_
                rintro e w1 ⟨rfl, rfl⟩
                go_wp2_with fail
                refine (Hi.out _).mono ?_
                rintro e w1 ⟨rfl, rfl⟩
                go_wp2_with fail
                refine (Hs.out _).mono ?_
                rintro e w1 ⟨rfl, rfl⟩
                go_wp2_with fail
                refine wp_loop_rounds 2 ?_
                rw [rounds_succ]
                go_wp2_with fail
                go_ret2
                exact ⟨by rw [E.out]; try rfl, by go_grown⟩
              · by_cases nm : m < 0
                · have E := Lib.hid (FE.trans (momS_odd (by omega)))
                  clear FE
                  go_enter Tryz.func124, Tryz.ntmps124
                  go_wp2_with fail
                  refine (Hy.out _).mono ?_
                  rintro e w1 ⟨rfl, rfl⟩
                  go_wp2_with fail
                  refine (Hm.out _).mono ?_
                  rintro e w1 ⟨rfl, rfl⟩
                  go_wp2_with fail
                  refine (Hd.out _).mono ?_
                  rintro e w1 ⟨rfl, rfl⟩
                  go_wp2_with fail
                  refine (Hh.out _).mono ?_
                  rintro e w1 ⟨rfl, rfl⟩
                  go_wp2_with fail
                  refine (Hi.out _).mono ?_
                  rintro e w1 ⟨rfl, rfl⟩
                  go_wp2_with fail
                  refine (Hs.out _).mono ?_
                  rintro e w1 ⟨rfl, rfl⟩
                  go_wp2_with fail
                  refine wp_loop_rounds 3 ?_
                  rw [rounds_succ]
                  go_wp2_with fail
                  rw [rounds_succ]
                  go_wp2_with fail
                  go_ret2
                  exact ⟨by rw [E.out]; try rfl, by go_grown⟩
                · by_cases nd : d < 0
                  · have E := Lib.hid (FE.trans (momS_odd (by omega)))
                    clear FE
                    go_enter Tryz.func124, Tryz.ntmps124
                    go_wp2_with fail
                    refine (Hy.out _).mono ?_
                    rintro e w1 ⟨rfl, rfl⟩
                    go_wp2_with fail
                    refine (Hm.out _).mono ?_
                    rintro e w1 ⟨rfl, rfl⟩
                    go_wp2_with fail
                    refine (Hd.out _).mono ?_
                    rintro e w1 ⟨rfl, rfl⟩
                    go_wp2_with fail
                    refine (Hh.out _).mono ?_
                    rintro e w1 ⟨rfl, rfl⟩
                    go_wp2_with fail
                    refine (Hi.out _).mono ?_
                    rintro e w1 ⟨rfl, rfl⟩
                    go_wp2_with fail
                    refine (Hs.out _).mono ?_
                    rintro e w1 ⟨rfl, rfl⟩
                    go_wp2_with fail
                    refine wp_loop_rounds 4 ?_
                    rw [rounds_succ]
                    go_wp2_with fail
                    rw [rounds_succ]
                    go_wp2_with fail
                    rw [rounds_succ]
                    go_wp2_with fail
                    go_ret2
                    exact ⟨by rw [E.out]; try rfl, by go_grown⟩
                  · by_cases nh : h < 0
                    · have E := Lib.hid (FE.trans (momS_odd (by omega)))
                      clear FE
                      go_enter Tryz.func124, Tryz.ntmps124
                      go_wp2_with fail
                      refine (Hy.out _).mono ?_
                      rintro e w1 ⟨rfl, rfl⟩
                      go_wp2_with fail
                      refine (Hm.out _).mono ?_
                      rintro e w1 ⟨rfl, rfl⟩
                      go_wp2_with fail
                      refine (Hd.out _).mono ?_
                      rintro e w1 ⟨rfl, rfl⟩
                      go_wp2_with fail
                      refine (Hh.out _).mono ?_
                      rintro e w1 ⟨rfl, rfl⟩
                      go_wp2_with fail
                      refine (Hi.out _).mono ?_
                      rintro e w1 ⟨rfl, rfl⟩
                      go_wp2_with fail
                      refine (Hs.out _).mono ?_
                      rintro e w1 ⟨rfl, rfl⟩
                      go_wp2_with fail
                      refine wp_loop_rounds 5 ?_
                      rw [rounds_succ]
                      go_wp2_with fail
                      rw [rounds_succ]
                      go_wp2_with fail
                      rw [rounds_succ]
                      go_wp2_with fail
                      rw [rounds_succ]
                      go_wp2_with fail
                      go_ret2
                      exact ⟨by rw [E.out]; try rfl, by go_grown⟩
                    · by_cases ni : i < 0
                      · have E := Lib.hid (FE.trans (momS_odd (by omega)))
                        clear FE
                        go_enter Tryz.func124, Tryz.ntmps124
                        go_wp2_with fail
                        refine (Hy.out _).mono ?_
                        rintro e w1 ⟨rfl, rfl⟩
                        go_wp2_with fail
                        refine (Hm.out _).mono ?_
                        rintro e w1 ⟨rfl, rfl⟩
                        go_wp2_with fail
                        refine (Hd.out _).mono ?_
                        rintro e w1 ⟨rfl, rfl⟩
                        go_wp2_with fail
                        refine (Hh.out _).mono ?_
                        rintro e w1 ⟨rfl, rfl⟩
                        go_wp2_with fail
                        refine (Hi.out _).mono ?_
                        rintro e w1 ⟨rfl, rfl⟩
                        go_wp2_with fail
                        refine (Hs.out _).mono ?_
                        rintro e w1 ⟨rfl, rfl⟩
                        go_wp2_with fail
                        refine wp_loop_rounds 6 ?_
                        rw [rounds_succ]
                        go_wp2_with fail
                        rw [rounds_succ]
                        go_wp2_with fail
                        rw [rounds_succ]
                        go_wp2_with fail
                        rw [rounds_succ]
                        go_wp2_with fail
                        rw [rounds_succ]
                        go_wp2_with fail
                        go_ret2
                        exact ⟨by rw [E.out]; try rfl, by go_grown⟩
                      · by_cases ns : s < 0
                        · have E := Lib.hid (FE.trans (momS_odd (by omega)))
                          clear FE
                          go_enter Tryz.func124, Tryz.ntmps124
                          go_wp2_with fail
                          refine (Hy.out _).mono ?_
                          rintro e w1 ⟨rfl, rfl⟩
                          go_wp2_with fail
                          refine (Hm.out _).mono ?_
                          rintro e w1 ⟨rfl, rfl⟩
                          go_wp2_with fail
                          refine (Hd.out _).mono ?_
                          rintro e w1 ⟨rfl, rfl⟩
                          go_wp2_with fail
                          refine (Hh.out _).mono ?_
                          rintro e w1 ⟨rfl, rfl⟩
                          go_wp2_with fail
                          refine (Hi.out _).mono ?_
                          rintro e w1 ⟨rfl, rfl⟩
                          go_wp2_with fail
                          refine (Hs.out _).mono ?_
                          rintro e w1 ⟨rfl, rfl⟩
                          go_wp2_with fail
                          refine wp_loop_rounds 7 ?_
                          rw [rounds_succ]
                          go_wp2_with fail
                          rw [rounds_succ]
                          go_wp2_with fail
                          rw [rounds_succ]
                          go_wp2_with fail
                          rw [rounds_succ]
                          go_wp2_with fail
                          rw [rounds_succ]
                          go_wp2_with fail
                          rw [rounds_succ]
                          go_wp2_with fail
                          go_ret2
                          exact ⟨by rw [E.out]; try rfl, by go_grown⟩
                        · have hno : ¬ (y < 0 ∨ m < 0 ∨ d < 0 ∨ h < 0 ∨ i < 0 ∨ s < 0) := by omega
                          by_cases hy0 : y = 0
                          · subst hy0
                            have E := Lib.hid (FE.trans (momS_zero hno))
                            clear FE hno
                            go_enter Tryz.func124, Tryz.ntmps124
                            go_wp2_with fail
                            refine (Hy.out _).mono ?_
                            rintro e w1 ⟨rfl, rfl⟩
                            go_wp2_with fail
                            refine (Hm.out _).mono ?_
                            rintro e w1 ⟨rfl, rfl⟩
                            go_wp2_with fail
                            refine (Hd.out _).mono ?_
                            rintro e w1 ⟨rfl, rfl⟩
                            go_wp2_with fail
                            refine (Hh.out _).mono ?_
                            rintro e w1 ⟨rfl, rfl⟩
                            go_wp2_with fail
                            refine (Hi.out _).mono ?_
                            rintro e w1 ⟨rfl, rfl⟩
                            go_wp2_with fail
                            refine (Hs.out _).mono ?_
                            rintro e w1 ⟨rfl, rfl⟩
                            go_wp2_with fail
                            refine wp_loop_rounds 8 ?_
                            rw [rounds_succ]
                            go_wp2_with fail
                            rw [rounds_succ]
                            go_wp2_with fail
                            rw [rounds_succ]
                            go_wp2_with fail
                            rw [rounds_succ]
                            go_wp2_with fail
                            rw [rounds_succ]
                            go_wp2_with fail
                            rw [rounds_succ]
                            go_wp2_with fail
                            rw [rounds_succ]
                            go_wp2_with fail
                            go_ret2
                            exact ⟨by rw [E.out]; try rfl, by go_grown⟩
                          · have E := Lib.hid (FE.trans (momS_neg hno hy0))
                            have HZ := Lib.hid (rtSecs_any (-y) m d h i s 0)
                            have y0b : decide (y = 0) = false := decide_eq_false hy0
                            have y0c : (y == 0) = false := beq_eq_false_iff_ne.2 hy0
                            replace hy0 := Lib.hid hy0
                            clear FE hno
                            go_enter Tryz.func124, Tryz.ntmps124
                            go_wp2_with fail
                            refine (Hy.out _).mono ?_
                            rintro e w1 ⟨rfl, rfl⟩
                            go_wp2_with fail
                            refine (Hm.out _).mono ?_
                            rintro e w1 ⟨rfl, rfl⟩
                            go_wp2_with fail
                            refine (Hd.out _).mono ?_
                            rintro e w1 ⟨rfl, rfl⟩
                            go_wp2_with fail
                            refine (Hh.out _).mono ?_
                            rintro e w1 ⟨rfl, rfl⟩
                            go_wp2_with fail
                            refine (Hi.out _).mono ?_
                            rintro e w1 ⟨rfl, rfl⟩
                            go_wp2_with fail
                            refine (Hs.out _).mono ?_
                            rintro e w1 ⟨rfl, rfl⟩
                            go_wp2_with fail
                            refine wp_loop_rounds 8 ?_
                            rw [rounds_succ]
                            go_wp2_with fail
                            rw [rounds_succ]
                            go_wp2_with fail
                            rw [rounds_succ]
                            go_wp2_with fail
                            rw [rounds_succ]
                            go_wp2_with fail
                            rw [rounds_succ]
                            go_wp2_with fail
                            rw [rounds_succ]
                            go_wp2_with fail
                            rw [rounds_succ]
                            go_wp2_with fail
                            refine (HZ.out _).mono ?_
                            rintro e w2 ⟨rfl, hb2⟩
                            go_wp2
                            go_ret2
                            exact ⟨by rw [E.out]; try rfl, by have hb3 := hb2; exact Below.trans (by go_grown) (hb3.mono (by simp))⟩
            · have E := Lib.hid (F0 (by rw [hF]; simp; omega))
              have k1 : ((f : Int) == 58) = false := beq_eq_false_iff_ne.2 (by omega)
              have k2 : ((f : Int) != 58) = true := bne_iff_ne.2 (by omega)
              clear F0 F1 hF
              replace ha := Lib.hid ha
              replace hb := Lib.hid hb
              replace hc := Lib.hid hc
              replace he := Lib.hid he
              replace hf := Lib.hid hf
              clear Dy By
              clear Dm Bm
              clear Dd Bd
              clear Dh Bh
              clear Di Bi
              clear Ds Bs
              go_enter Tryz.func124, Tryz.ntmps124
              go_wp2
              go_ret2
              exact ⟨by rw [E.out]; try rfl, by go_grown⟩
          · have E := Lib.hid (F0 (by rw [hF]; simp; omega))
            have k1 : ((e : Int) == 58) = false := beq_eq_false_iff_ne.2 (by omega)
            have k2 : ((e : Int) != 58) = true := bne_iff_ne.2 (by omega)
            clear F0 F1 hF
            replace ha := Lib.hid ha
            replace hb := Lib.hid hb
            replace hc := Lib.hid hc
            replace he := Lib.hid he
            replace hf := Lib.hid hf
            clear Dy By
            clear Dm Bm
            clear Dd Bd
            clear Dh Bh
            clear Di Bi
            clear Ds Bs
            go_enter Tryz.func124, Tryz.ntmps124
            go_wp2
            go_ret2
            exact ⟨by rw [E.out]; try rfl, by go_grown⟩
        · have E := Lib.hid (F0 (by rw [hF]; simp; omega))
          have k1 : ((c : Int) == 84) = false := beq_eq_false_iff_ne.2 (by omega)
          have k2 : ((c : Int) != 84) = true := bne_iff_ne.2 (by omega)
          clear F0 F1 hF
          replace ha := Lib.hid ha
          replace hb := Lib.hid hb
          replace hc := Lib.hid hc
          replace he := Lib.hid he
          replace hf := Lib.hid hf
          clear Dy By
          clear Dm Bm
          clear Dd Bd
          clear Dh Bh
          clear Di Bi
          clear Ds Bs
          go_enter Tryz.func124, Tryz.ntmps124
          go_wp2
          go_ret2
          exact ⟨by rw [E.out]; try rfl, by go_grown⟩
      · have E := Lib.hid (F0 (by rw [hF]; simp; omega))
        have k1 : ((b : Int) == 45) = false := beq_eq_false_iff_ne.2 (by omega)
        have k2 : ((b : Int) != 45) = true := bne_iff_ne.2 (by omega)
        clear F0 F1 hF
        replace ha := Lib.hid ha
        replace hb := Lib.hid hb
        replace hc := Lib.hid hc
        replace he := Lib.hid he
        replace hf := Lib.hid hf
        clear Dy By
        clear Dm Bm
        clear Dd Bd
        clear Dh Bh
        clear Di Bi
        clear Ds Bs
        go_enter Tryz.func124, Tryz.ntmps124
        go_wp2
        go_ret2
        exact ⟨by rw [E.out]; try rfl, by go_grown⟩
    · have E := Lib.hid (F0 (by rw [hF]; simp; omega))
      have k1 : ((a : Int) == 45) = false := beq_eq_false_iff_ne.2 (by omega)
      have k2 : ((a : Int) != 45) = true := bne_iff_ne.2 (by omega)
      clear F0 F1 hF
      replace ha := Lib.hid ha
      replace hb := Lib.hid hb
      replace hc := Lib.hid hc
      replace he := Lib.hid he
      replace hf := Lib.hid hf
      clear Dy By
      clear Dm Bm
      clear Dd Bd
      clear Dh Bh
      clear Di Bi
      clear Ds Bs
      go_enter Tryz.func124, Tryz.ntmps124
      go_wp2
      go_ret2
      exact ⟨by rw [E.out]; try rfl, by go_grown⟩
  · have E := Lib.hid (F0 (momF_len hlen))
    have k1 : ((T.length : Int) != 19) = true := bne_iff_ne.2 (by omega)
    have k2 : ((T.length : Int) == 19) = false := beq_eq_false_iff_ne.2 (by omega)
    clear F0 F1
    go_enter Tryz.func124, Tryz.ntmps124
    go_wp2
    go_ret2
    exact ⟨by rw [E.out]; try rfl, by go_grown⟩
theorem rMom_any (L : List UInt8) (hL : L.length ≤ 100000) (w : World) : Calls Tryz.prog 124 #[.string (bs L)] w fun e w' => e = .returned (.tuple #[.int .i64 (momR L).1, .int .i64 (momR L).2]) ∧ Below w.heap.size w w' := by
  by_cases h0 : 0 < L.length
  · cases hn : negB L
    · exact rMom_pos L hL h0 hn w
    · exact rMom_neg L hL h0 hn w
  · exact rMom_nil L hL (by omega) w
end Go.Proofs.YtacpcjdiljnlaaaGreatDoor
