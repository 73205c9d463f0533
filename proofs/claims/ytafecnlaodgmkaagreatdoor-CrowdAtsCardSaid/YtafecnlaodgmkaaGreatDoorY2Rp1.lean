/- Several texts in one: RpA, RpG, RpB, RpH, RpC, RpI, RpJ. -/
import Derived.Test.YtafecnlaodgmkaaGreatDoorY2Sm
import Derived.Test.YtafecnlaodgmkaaGreatDoorY2Pkg1
import Derived.Test.YtafecnlaodgmkaaGreatDoorY2Rul1
import Derived.Test.YtafecnlaodgmkaaGreatDoorY2Wp1
import Derived.Test.YtafecnlaodgmkaaGreatDoorY2Kx1
import Derived.Defers
import Derived.Recover
import Derived.Lib.AppendIntMem
import Derived.Lib.ItoaLen
namespace Go.Proofs.YtafecnlaodgmkaaGreatDoor
set_option linter.unusedVariables false
set_option linter.unusedSimpArgs false
open Go.ChangeShapes Go.WideShapes Go.ChangeAt Go.RowKit
theorem grow3 {P : Program} {f : Nat} {args : Array Value} {w : World} {r : Ending} (h : Calls P f args w fun e w' => e = r ∧ w = w') : Calls P f args w fun e w' => e = r ∧ Below w.heap.size w w' := h.mono fun e w' ⟨a, b⟩ => ⟨a, b ▸ Below.refl _ _⟩
end Go.Proofs.YtafecnlaodgmkaaGreatDoor
namespace Go.Proofs.YtafecnlaodgmkaaGreatDoor
set_option linter.unusedVariables false
set_option linter.unusedSimpArgs false
open Go.ChangeShapes Go.WideShapes Go.ChangeAt Go.RowKit
theorem dec_nbN : ∀ k : Nat, Lib.decDigits k = nbN k := by
  intro k
  induction k using Nat.strongRecOn with
  | ind k ih =>
    rw [Lib.decDigits]
    by_cases h : k < 10
    · rw [dif_pos h, nbN_small h]
      unfold dgt
      congr 2
    · rw [dif_neg h, nbN_big h, ih (k / 10) (by omega)]
      congr 2
theorem itoa_nbI (n : Int) : Lib.itoa n = nbI n := by
  unfold Lib.itoa nbI
  by_cases h : n < 0
  · rw [if_pos h, if_pos h, dec_nbN, show n.natAbs = (-n).toNat by omega]
  · rw [if_neg h, if_neg h, dec_nbN]
theorem gP10 : Tryz.prog.globalNamed "internal/strconv.uint64pow10" = some 4 := by kernel_rfl
theorem pItoa_any (n : Int) (h0 : -9223372036854775808 ≤ n) (h1 : n ≤ 9223372036854775807) (w : World) (hK : KX w) : Calls Tryz.prog 152 #[.int .i64 n] w fun e w' => e = .returned (.string (bs (nbI n))) ∧ Below w.heap.size w w' := by
  have H := Tryz.strconv_Itoa n h0 h1 w (hK.p10 _ gP10)
  rw [itoa_nbI, mk_bs] at H
  refine H.mono ?_
  rintro e w' ⟨rfl, k, os, rfl⟩
  exact ⟨rfl, Lib.below_grow _ w (Nat.le_refl _) k os⟩
end Go.Proofs.YtafecnlaodgmkaaGreatDoor
namespace Go.Proofs.YtafecnlaodgmkaaGreatDoor
set_option linter.unusedVariables false
set_option linter.unusedSimpArgs false
open Go.ChangeShapes Go.WideShapes Go.ChangeAt Go.RowKit
def tailP (l : List Lin) : Nat := (l.filter (fun x => x.k == 2 && x.t == 1048576)).length
theorem tailP_len (l : List Lin) : tailP l ≤ l.length := List.length_filter_le _ _
theorem tailP_take {l : List Lin} {k : Nat} (h : k < l.length) : tailP (l.take (k + 1)) = tailP (l.take k) + (if l[k].k = 2 ∧ l[k].t = 1048576 then 1 else 0) := by
  rw [List.take_succ_eq_append_getElem h]
  unfold tailP
  rw [List.filter_append, List.length_append]
  congr 1
  by_cases h2 : l[k].k = 2 ∧ l[k].t = 1048576
  · rw [if_pos h2, List.filter_cons_of_pos (by simp [h2.1, h2.2])]; rfl
  · rw [if_neg h2, List.filter_cons_of_neg (by simpa using h2)]; rfl
theorem tail_eq {l : List Lin} (h : ∀ x ∈ l, OkL x) : tailP l = tailN l := by
  unfold tailP tailN
  congr 1
  apply List.filter_congr
  intro x hx
  obtain ⟨h1, _⟩ := h x hx
  rcases h1 with ⟨a, _, b, _⟩ | ⟨a, _⟩
  · rw [a, b]; rfl
  · rw [a]; rfl
set_option maxHeartbeats 3200000 in
set_option maxRecDepth 100000 in
theorem pTails_any (T : List Lin) (A : Option Addr) (c : Nat) (w : World) (hl : T.length ≤ 1000000000000) (hA : Rd w A (linVs T)) : Calls Tryz.prog 85 #[.slice A T.length c] w fun e w' => e = .returned (.int .i64 (tailP T : Int)) ∧ Below w.heap.size w w' := by
  have HA := Lib.hid hA
  clear hA
  go_enter Tryz.func85, Tryz.ntmps85
  go_wp2
  go_loopw [3, 8] (fun n i wr => ∃ k : Nat, k ≤ T.length ∧ i = .int .i64 (k : Int) ∧ n = .int .i64 (tailP (T.take k) : Int) ∧ Below w.heap.size w wr) (fun _ i _ => T.length - (intOf i).toNat)
  case atStart => exact ⟨0, by omega, rfl, rfl, Below.refl _ _⟩
  case round =>
    obtain ⟨k, hk, rfl, rfl, hB1⟩ := hrel
    obtain ⟨V20, rfl⟩ : ∃ V, V = wr := ⟨_, rfl⟩
    have hR := HA.out.below hB1 (Nat.le_refl _)
    have B20 := Lib.hid hB1
    clear hB1
    by_cases hlt : k < T.length
    · obtain ⟨b, o, rfl, hb, hc⟩ := hR.lin hlt
      obtain ⟨a0, a1, a2, a3, a4, a5, a6, a7, a8, a9, a10, a11, a12⟩ := hc k hlt
      have E := tailP_take hlt
      have hbd := tailP_len (T.take k)
      rw [List.length_take] at hbd
      clear hc hR HA
      generalize T[k] = l at *
      generalize hN : T.length = N at *
      obtain ⟨l0, l1, l2, l3, l4, l5, l6, l7, l8, l9, l10, l11, l12⟩ := l
      simp only at *
      have hw : IntKind.i64.wrap ((tailP (T.take k) : Int) + 1) = (tailP (T.take k) : Int) + 1 := wrap_small _ (by omega) (by omega)
      by_cases h1 : l0 = 2
      · subst h1
        by_cases h2 : l3 = 1048576
        · subst h2
          rw [if_pos ⟨rfl, rfl⟩] at E
          replace E := Lib.hid E
          generalize tailP (T.take k) = q at *
          
          go_wp2
          go_roundw
          case rel => exact ⟨k + 1, by omega, by go_num, by rw [E.out]; go_num, B20.out.alloc B20.out.size _⟩
          case measure => simp [intOf]; omega
        · rw [if_neg (fun e => h2 e.2)] at E
          have q2 : (l3 == 1048576) = false := beq_false_of_ne h2
          replace E := Lib.hid E
          replace h2 := Lib.hid h2
          generalize tailP (T.take k) = q at *
          
          go_wp2
          go_roundw
          case rel => exact ⟨k + 1, by omega, by go_num, by rw [E.out]; rfl, B20.out.alloc B20.out.size _⟩
          case measure => simp [intOf]; omega
      · rw [if_neg (fun e => h1 e.1)] at E
        have q1 : (l0 == 2) = false := beq_false_of_ne h1
        replace E := Lib.hid E
        replace h1 := Lib.hid h1
        generalize tailP (T.take k) = q at *
        
        go_wp2
        go_roundw
        case rel => exact ⟨k + 1, by omega, by go_num, by rw [E.out]; rfl, B20.out.alloc B20.out.size _⟩
        case measure => simp [intOf]; omega
    · obtain rfl : k = T.length := by omega
      have E : Hid (tailP (T.take T.length) = tailP T) := Lib.hid (by rw [List.take_length])
      clear hR HA
      
      go_wp2
      go_ret
      exact ⟨by rw [← E.out]; rfl, B20.out⟩
end Go.Proofs.YtafecnlaodgmkaaGreatDoor
namespace Go.Proofs.YtafecnlaodgmkaaGreatDoor
set_option linter.unusedVariables false
set_option linter.unusedSimpArgs false
open Go.ChangeShapes Go.WideShapes Go.ChangeAt Go.RowKit
@[irreducible] def inI (n lo hi : Int) : Bool := decide (lo ≤ n) && decide (n ≤ hi)
theorem inI_iff (n lo hi : Int) : inI n lo hi = true ↔ (lo ≤ n ∧ n ≤ hi) := by unfold inI; simp
theorem inI_no {n lo hi : Int} (h : ¬ (lo ≤ n ∧ n ≤ hi)) : inI n lo hi = false := by rw [Bool.eq_false_iff]; intro e; exact h ((inI_iff n lo hi).1 e)
set_option maxHeartbeats 1600000 in
set_option maxRecDepth 100000 in
theorem pWithin15_p (n lo hi : Int) (w : World) : Calls Tryz.prog 117 #[.int .i64 n, .int .i64 lo, .int .i64 hi] w fun e w' => e = .returned (.bool (inI n lo hi)) ∧ w = w' := by
  by_cases h1 : lo ≤ n
  · by_cases h2 : n ≤ hi
    · have E := Lib.hid ((inI_iff n lo hi).2 ⟨h1, h2⟩)
      have d1 : decide (lo ≤ n) = true := decide_eq_true h1
      have d2 : decide (n ≤ hi) = true := decide_eq_true h2
      replace h1 := Lib.hid h1
      replace h2 := Lib.hid h2
      go_enter Tryz.func117, Tryz.ntmps117
      go_wp2
      go_ret
      exact ⟨by rw [E.out]; try rfl, rfl⟩
    · have E := Lib.hid (inI_no (lo := lo) (hi := hi) (n := n) (fun e => h2 e.2))
      have d1 : decide (lo ≤ n) = true := decide_eq_true h1
      have d2 : decide (n ≤ hi) = false := decide_eq_false h2
      replace h1 := Lib.hid h1
      replace h2 := Lib.hid h2
      go_enter Tryz.func117, Tryz.ntmps117
      go_wp2
      go_ret
      exact ⟨by rw [E.out]; try rfl, rfl⟩
  · have E := Lib.hid (inI_no (lo := lo) (hi := hi) (n := n) (fun e => h1 e.1))
    have d1 : decide (lo ≤ n) = false := decide_eq_false h1
    replace h1 := Lib.hid h1
    go_enter Tryz.func117, Tryz.ntmps117
    go_wp2
    go_ret
    exact ⟨by rw [E.out]; try rfl, rfl⟩
set_option maxHeartbeats 1600000 in
set_option maxRecDepth 100000 in
theorem pIsYear_p (n : Int) (w : World) : Calls Tryz.prog 136 #[.int .i64 n] w fun e w' => e = .returned (.bool (inI n (-9999) 9999)) ∧ w = w' := by
  have H := Lib.hid (pWithin15_p n (-9999) 9999)
  generalize inI n (-9999) 9999 = b at *
  go_enter Tryz.func136, Tryz.ntmps136
  go_wp2_with fail
  refine (H.out _).mono ?_
  rintro e w1 ⟨rfl, rfl⟩
  go_wp2
  go_ret
  exact ⟨rfl, rfl⟩
set_option maxHeartbeats 1600000 in
set_option maxRecDepth 100000 in
theorem pIsOffset_p (n : Int) (w : World) : Calls Tryz.prog 119 #[.int .i64 n] w fun e w' => e = .returned (.bool (inI n (-64800) 64800)) ∧ w = w' := by
  have H := Lib.hid (pWithin15_p n (-64800) 64800)
  generalize inI n (-64800) 64800 = b at *
  go_enter Tryz.func119, Tryz.ntmps119
  go_wp2_with fail
  refine (H.out _).mono ?_
  rintro e w1 ⟨rfl, rfl⟩
  go_wp2
  go_ret
  exact ⟨rfl, rfl⟩
@[irreducible] def yeB (f t : Int) : Bool := inI f (-9999) 9999 && (decide (t = 1048576) || (inI t (-9999) 9999 && decide (f ≤ t)))
theorem yeB_iff (f t : Int) : yeB f t = true ↔ ((-9999 ≤ f ∧ f ≤ 9999) ∧ (t = 1048576 ∨ (-9999 ≤ t ∧ t ≤ 9999 ∧ f ≤ t))) := by
  unfold yeB
  simp [inI_iff, and_assoc]
set_option maxHeartbeats 1600000 in
set_option maxRecDepth 100000 in
theorem pYears15_p (f t : Int) (w : World) : Calls Tryz.prog 116 #[.int .i64 f, .int .i64 t] w fun e w' => e = .returned (.bool (yeB f t)) ∧ w = w' := by
  have H1 := Lib.hid (pIsYear_p f)
  have H2 := Lib.hid (pIsYear_p t)
  have E : Hid (yeB f t = (inI f (-9999) 9999 && (decide (t = 1048576) || (inI t (-9999) 9999 && decide (f ≤ t))))) := Lib.hid (by unfold yeB; rfl)
  generalize inI f (-9999) 9999 = a at *
  generalize inI t (-9999) 9999 = b at *
  cases a
  · go_enter Tryz.func116, Tryz.ntmps116
    go_wp2_with fail
    refine (H1.out _).mono ?_
    rintro e w1 ⟨rfl, rfl⟩
    go_wp2
    go_ret
    exact ⟨by rw [E.out]; rfl, rfl⟩
  · by_cases h1 : t = 1048576
    · subst h1
      go_enter Tryz.func116, Tryz.ntmps116
      go_wp2_with fail
      refine (H1.out _).mono ?_
      rintro e w1 ⟨rfl, rfl⟩
      go_wp2
      go_ret
      exact ⟨by rw [E.out]; simp, rfl⟩
    · have q1 : (t == 1048576) = false := beq_false_of_ne h1
      have d1 : decide (t = 1048576) = false := decide_eq_false h1
      replace h1 := Lib.hid h1
      cases b
      · go_enter Tryz.func116, Tryz.ntmps116
        go_wp2_with fail
        refine (H1.out _).mono ?_
        rintro e w1 ⟨rfl, rfl⟩
        go_wp2_with fail
        refine (H2.out _).mono ?_
        rintro e w1 ⟨rfl, rfl⟩
        go_wp2
        go_ret
        exact ⟨by rw [E.out]; rw [d1]; rfl, rfl⟩
      · by_cases h2 : f ≤ t
        · have d2 : decide (f ≤ t) = true := decide_eq_true h2
          replace h2 := Lib.hid h2
          go_enter Tryz.func116, Tryz.ntmps116
          go_wp2_with fail
          refine (H1.out _).mono ?_
          rintro e w1 ⟨rfl, rfl⟩
          go_wp2_with fail
          refine (H2.out _).mono ?_
          rintro e w1 ⟨rfl, rfl⟩
          go_wp2
          go_ret
          exact ⟨by rw [E.out]; rw [d1, d2]; rfl, rfl⟩
        · have d2 : decide (f ≤ t) = false := decide_eq_false h2
          replace h2 := Lib.hid h2
          go_enter Tryz.func116, Tryz.ntmps116
          go_wp2_with fail
          refine (H1.out _).mono ?_
          rintro e w1 ⟨rfl, rfl⟩
          go_wp2_with fail
          refine (H2.out _).mono ?_
          rintro e w1 ⟨rfl, rfl⟩
          go_wp2
          go_ret
          exact ⟨by rw [E.out]; rw [d1, d2]; rfl, rfl⟩
def nmW (k : Int) : List UInt8 := if 1 ≤ k ∧ k ≤ 7 then wkS k else []
def dwL (k n x : Int) : List UInt8 := if k = 0 then nbI n else if k = 1 then lastL ++ nmW x else if k = 2 then nmW x ++ [62, 61] ++ nbI n else if k = 3 then nmW x ++ [60, 61] ++ nbI n else []
theorem dn_wkS : ∀ j : Fin 7, dnT.getD j.val [] = wkS ((j.val : Int) + 1) := by decide +kernel
theorem gDN15 : Tryz.prog.globalNamed "analemma/rules.dayNames" = some 1 := by kernel_rfl
theorem nbI_len21 {n : Int} (h0 : -9223372036854775808 ≤ n) (h1 : n ≤ 9223372036854775807) : (nbI n).length ≤ 21 := by
  rw [← itoa_nbI]; exact Lib.itoa_length_le n h0 h1
theorem nmW_len (k : Int) : (nmW k).length ≤ 3 := by
  unfold nmW
  split
  · rename_i h; rw [wkS_len k h.1 h.2]; exact Nat.le_refl _
  · simp
set_option maxHeartbeats 1600000 in
set_option maxRecDepth 100000 in
theorem pDayWord_in0 (j : Nat) (hj : j < 7) (n : Int) (n0 : -9223372036854775808 ≤ n) (n1 : n ≤ 9223372036854775807) (w : World) (hK : KX w) : Calls Tryz.prog 138 #[.agg #[.int .i64 0, .int .i64 n, .int .i64 ((j : Int) + 1)]] w fun e w' => e = .returned (.string (bs (dwL 0 n ((j : Int) + 1)))) ∧ Below w.heap.size w w' := by
  have hI : inI ((j : Int) + 1) 1 7 = true := (inI_iff _ _ _).2 ⟨by omega, by omega⟩
  have hT : nmW ((j : Int) + 1) = dnT.getD j [] := by
    unfold nmW
    rw [if_pos (by omega)]
    exact (dn_wkS ⟨j, hj⟩).symm
  have hc := (strsAt_keep hK.dr ((Below.refl _ w).alloc (Nat.le_refl _) (.cells #[.int .i64 0, .int .i64 n, .int .i64 ((j : Int) + 1)] 56)) _ gDN15).1 j hj
  rw [← hT] at hc
  have hw : IntKind.i64.wrap ((j : Int) + 1 - 1) = (j : Int) := by rw [wrap_small _ (by omega) (by omega)]; omega
  have hj0 : (0 : Int) ≤ (j : Int) ∧ (j : Int) < 7 := by omega
  have HI := pWithin15_p ((j : Int) + 1) 1 7
  rw [hI] at HI
  replace HI := Lib.hid HI
  have hl := nmW_len ((j : Int) + 1)
  have HN := Lib.hid (pItoa_any n n0 n1)
  have hn := nbI_len21 n0 n1
  have E : Hid (dwL 0 n ((j : Int) + 1) = nbI n) := Lib.hid rfl
  generalize nbI n = N at *
  generalize nmW ((j : Int) + 1) = T at *
  replace hT := Lib.hid hT
  clear n0 n1
  replace hK := Lib.hid hK
  replace hI := Lib.hid hI
  go_enter Tryz.func138, Tryz.ntmps138
  go_wp2_with fail
  refine (HI.out _).mono ?_
  rintro e w1 ⟨rfl, rfl⟩
  go_wp2_with fail
  refine (HN.out _ (kx_keep hK ((Below.refl _ w).alloc (Nat.le_refl _) _))).mono ?_
  rintro e w2 ⟨rfl, hb2⟩
  replace hb2 := Lib.hid hb2
  go_wp2
  go_ret
  exact ⟨by rw [E.out]; try rfl, ((Below.refl _ w).alloc (Nat.le_refl _) _).trans (hb2.out.mono (by simp))⟩
set_option maxHeartbeats 1600000 in
set_option maxRecDepth 100000 in
theorem pDayWord_in1 (j : Nat) (hj : j < 7) (n : Int) (n0 : -9223372036854775808 ≤ n) (n1 : n ≤ 9223372036854775807) (w : World) (hK : KX w) : Calls Tryz.prog 138 #[.agg #[.int .i64 1, .int .i64 n, .int .i64 ((j : Int) + 1)]] w fun e w' => e = .returned (.string (bs (dwL 1 n ((j : Int) + 1)))) ∧ Below w.heap.size w w' := by
  have hI : inI ((j : Int) + 1) 1 7 = true := (inI_iff _ _ _).2 ⟨by omega, by omega⟩
  have hT : nmW ((j : Int) + 1) = dnT.getD j [] := by
    unfold nmW
    rw [if_pos (by omega)]
    exact (dn_wkS ⟨j, hj⟩).symm
  have hc := (strsAt_keep hK.dr ((Below.refl _ w).alloc (Nat.le_refl _) (.cells #[.int .i64 1, .int .i64 n, .int .i64 ((j : Int) + 1)] 56)) _ gDN15).1 j hj
  rw [← hT] at hc
  have hw : IntKind.i64.wrap ((j : Int) + 1 - 1) = (j : Int) := by rw [wrap_small _ (by omega) (by omega)]; omega
  have hj0 : (0 : Int) ≤ (j : Int) ∧ (j : Int) < 7 := by omega
  have HI := pWithin15_p ((j : Int) + 1) 1 7
  rw [hI] at HI
  replace HI := Lib.hid HI
  have hl := nmW_len ((j : Int) + 1)
  have E : Hid (dwL 1 n ((j : Int) + 1) = lastL ++ nmW ((j : Int) + 1)) := Lib.hid rfl
  have z0 := bs_size (nmW ((j : Int) + 1))
  have a0 : (⟨#[108, 97, 115, 116, 45]⟩ : ByteArray) ++ bs (nmW ((j : Int) + 1)) = bs (lastL ++ nmW ((j : Int) + 1)) := by rw [lit_bs15, append_bs]; rfl
  have hm : ¬ (9223372036854775807 < 5 + (nmW ((j : Int) + 1)).length) := by omega
  generalize lastL ++ nmW ((j : Int) + 1) = S1 at *
  generalize nmW ((j : Int) + 1) = T at *
  replace hT := Lib.hid hT
  clear n0 n1
  replace hK := Lib.hid hK
  replace hI := Lib.hid hI
  go_enter Tryz.func138, Tryz.ntmps138
  go_wp2_with fail
  refine (HI.out _).mono ?_
  rintro e w1 ⟨rfl, rfl⟩
  go_wp2
  go_ret
  exact ⟨by rw [E.out]; try rfl, (Below.refl _ w).alloc (Nat.le_refl _) _⟩
set_option maxHeartbeats 1600000 in
set_option maxRecDepth 100000 in
theorem pDayWord_in2 (j : Nat) (hj : j < 7) (n : Int) (n0 : -9223372036854775808 ≤ n) (n1 : n ≤ 9223372036854775807) (w : World) (hK : KX w) : Calls Tryz.prog 138 #[.agg #[.int .i64 2, .int .i64 n, .int .i64 ((j : Int) + 1)]] w fun e w' => e = .returned (.string (bs (dwL 2 n ((j : Int) + 1)))) ∧ Below w.heap.size w w' := by
  have hI : inI ((j : Int) + 1) 1 7 = true := (inI_iff _ _ _).2 ⟨by omega, by omega⟩
  have hT : nmW ((j : Int) + 1) = dnT.getD j [] := by
    unfold nmW
    rw [if_pos (by omega)]
    exact (dn_wkS ⟨j, hj⟩).symm
  have hc := (strsAt_keep hK.dr ((Below.refl _ w).alloc (Nat.le_refl _) (.cells #[.int .i64 2, .int .i64 n, .int .i64 ((j : Int) + 1)] 56)) _ gDN15).1 j hj
  rw [← hT] at hc
  have hw : IntKind.i64.wrap ((j : Int) + 1 - 1) = (j : Int) := by rw [wrap_small _ (by omega) (by omega)]; omega
  have hj0 : (0 : Int) ≤ (j : Int) ∧ (j : Int) < 7 := by omega
  have HI := pWithin15_p ((j : Int) + 1) 1 7
  rw [hI] at HI
  replace HI := Lib.hid HI
  have hl := nmW_len ((j : Int) + 1)
  have HN := Lib.hid (pItoa_any n n0 n1)
  have hn := nbI_len21 n0 n1
  have E : Hid (dwL 2 n ((j : Int) + 1) = nmW ((j : Int) + 1) ++ [62, 61] ++ nbI n) := Lib.hid rfl
  have z0 := bs_size (nmW ((j : Int) + 1))
  have z1 := bs_size (nbI n)
  have a0 : bs (nmW ((j : Int) + 1)) ++ (⟨#[62, 61]⟩ : ByteArray) = bs (nmW ((j : Int) + 1) ++ [62, 61]) := by rw [lit_bs15, append_bs]
  have z2 : (bs (nmW ((j : Int) + 1) ++ [62, 61])).size = (nmW ((j : Int) + 1)).length + 2 := by rw [bs_size, List.length_append]; rfl
  have a1 : bs (nmW ((j : Int) + 1) ++ [62, 61]) ++ bs (nbI n) = bs (nmW ((j : Int) + 1) ++ [62, 61] ++ nbI n) := append_bs _ _
  have hm : ¬ (9223372036854775807 < (nmW ((j : Int) + 1)).length + 2) := by omega
  have hm2 : ¬ (9223372036854775807 < (nmW ((j : Int) + 1)).length + 2 + (nbI n).length) := by omega
  generalize nmW ((j : Int) + 1) ++ [62, 61] ++ nbI n = S2 at *
  generalize nmW ((j : Int) + 1) ++ [62, 61] = S1 at *
  generalize nbI n = N at *
  generalize nmW ((j : Int) + 1) = T at *
  replace hT := Lib.hid hT
  clear n0 n1
  replace hK := Lib.hid hK
  replace hI := Lib.hid hI
  go_enter Tryz.func138, Tryz.ntmps138
  go_wp2_with fail
  refine (HI.out _).mono ?_
  rintro e w1 ⟨rfl, rfl⟩
  go_wp2_with fail
  refine (HN.out _ (kx_keep hK ((Below.refl _ w).alloc (Nat.le_refl _) _))).mono ?_
  rintro e w2 ⟨rfl, hb2⟩
  replace hb2 := Lib.hid hb2
  go_wp2
  go_ret
  exact ⟨by rw [E.out]; try rfl, ((Below.refl _ w).alloc (Nat.le_refl _) _).trans (hb2.out.mono (by simp))⟩
set_option maxHeartbeats 1600000 in
set_option maxRecDepth 100000 in
theorem pDayWord_in3 (j : Nat) (hj : j < 7) (n : Int) (n0 : -9223372036854775808 ≤ n) (n1 : n ≤ 9223372036854775807) (w : World) (hK : KX w) : Calls Tryz.prog 138 #[.agg #[.int .i64 3, .int .i64 n, .int .i64 ((j : Int) + 1)]] w fun e w' => e = .returned (.string (bs (dwL 3 n ((j : Int) + 1)))) ∧ Below w.heap.size w w' := by
  have hI : inI ((j : Int) + 1) 1 7 = true := (inI_iff _ _ _).2 ⟨by omega, by omega⟩
  have hT : nmW ((j : Int) + 1) = dnT.getD j [] := by
    unfold nmW
    rw [if_pos (by omega)]
    exact (dn_wkS ⟨j, hj⟩).symm
  have hc := (strsAt_keep hK.dr ((Below.refl _ w).alloc (Nat.le_refl _) (.cells #[.int .i64 3, .int .i64 n, .int .i64 ((j : Int) + 1)] 56)) _ gDN15).1 j hj
  rw [← hT] at hc
  have hw : IntKind.i64.wrap ((j : Int) + 1 - 1) = (j : Int) := by rw [wrap_small _ (by omega) (by omega)]; omega
  have hj0 : (0 : Int) ≤ (j : Int) ∧ (j : Int) < 7 := by omega
  have HI := pWithin15_p ((j : Int) + 1) 1 7
  rw [hI] at HI
  replace HI := Lib.hid HI
  have hl := nmW_len ((j : Int) + 1)
  have HN := Lib.hid (pItoa_any n n0 n1)
  have hn := nbI_len21 n0 n1
  have E : Hid (dwL 3 n ((j : Int) + 1) = nmW ((j : Int) + 1) ++ [60, 61] ++ nbI n) := Lib.hid rfl
  have z0 := bs_size (nmW ((j : Int) + 1))
  have z1 := bs_size (nbI n)
  have a0 : bs (nmW ((j : Int) + 1)) ++ (⟨#[60, 61]⟩ : ByteArray) = bs (nmW ((j : Int) + 1) ++ [60, 61]) := by rw [lit_bs15, append_bs]
  have z2 : (bs (nmW ((j : Int) + 1) ++ [60, 61])).size = (nmW ((j : Int) + 1)).length + 2 := by rw [bs_size, List.length_append]; rfl
  have a1 : bs (nmW ((j : Int) + 1) ++ [60, 61]) ++ bs (nbI n) = bs (nmW ((j : Int) + 1) ++ [60, 61] ++ nbI n) := append_bs _ _
  have hm : ¬ (9223372036854775807 < (nmW ((j : Int) + 1)).length + 2) := by omega
  have hm2 : ¬ (9223372036854775807 < (nmW ((j : Int) + 1)).length + 2 + (nbI n).length) := by omega
  generalize nmW ((j : Int) + 1) ++ [60, 61] ++ nbI n = S2 at *
  generalize nmW ((j : Int) + 1) ++ [60, 61] = S1 at *
  generalize nbI n = N at *
  generalize nmW ((j : Int) + 1) = T at *
  replace hT := Lib.hid hT
  clear n0 n1
  replace hK := Lib.hid hK
  replace hI := Lib.hid hI
  go_enter Tryz.func138, Tryz.ntmps138
  go_wp2_with fail
  refine (HI.out _).mono ?_
  rintro e w1 ⟨rfl, rfl⟩
  go_wp2_with fail
  refine (HN.out _ (kx_keep hK ((Below.refl _ w).alloc (Nat.le_refl _) _))).mono ?_
  rintro e w2 ⟨rfl, hb2⟩
  replace hb2 := Lib.hid hb2
  go_wp2
  go_ret
  exact ⟨by rw [E.out]; try rfl, ((Below.refl _ w).alloc (Nat.le_refl _) _).trans (hb2.out.mono (by simp))⟩
set_option maxHeartbeats 1600000 in
set_option maxRecDepth 100000 in
theorem pDayWord_in4 (j : Nat) (hj : j < 7) (k : Int) (h0 : k ≠ 0) (h1 : k ≠ 1) (h2 : k ≠ 2) (h3 : k ≠ 3) (n : Int) (n0 : -9223372036854775808 ≤ n) (n1 : n ≤ 9223372036854775807) (w : World) (hK : KX w) : Calls Tryz.prog 138 #[.agg #[.int .i64 k, .int .i64 n, .int .i64 ((j : Int) + 1)]] w fun e w' => e = .returned (.string (bs (dwL k n ((j : Int) + 1)))) ∧ Below w.heap.size w w' := by
  have hI : inI ((j : Int) + 1) 1 7 = true := (inI_iff _ _ _).2 ⟨by omega, by omega⟩
  have hT : nmW ((j : Int) + 1) = dnT.getD j [] := by
    unfold nmW
    rw [if_pos (by omega)]
    exact (dn_wkS ⟨j, hj⟩).symm
  have hc := (strsAt_keep hK.dr ((Below.refl _ w).alloc (Nat.le_refl _) (.cells #[.int .i64 k, .int .i64 n, .int .i64 ((j : Int) + 1)] 56)) _ gDN15).1 j hj
  rw [← hT] at hc
  have hw : IntKind.i64.wrap ((j : Int) + 1 - 1) = (j : Int) := by rw [wrap_small _ (by omega) (by omega)]; omega
  have hj0 : (0 : Int) ≤ (j : Int) ∧ (j : Int) < 7 := by omega
  have HI := pWithin15_p ((j : Int) + 1) 1 7
  rw [hI] at HI
  replace HI := Lib.hid HI
  have hl := nmW_len ((j : Int) + 1)
  have E : Hid (dwL k n ((j : Int) + 1) = []) := Lib.hid (by unfold dwL; rw [if_neg h0, if_neg h1, if_neg h2, if_neg h3])
  have q0 : (k == 0) = false := beq_false_of_ne h0
  have q1 : (k == 1) = false := beq_false_of_ne h1
  have q2 : (k == 2) = false := beq_false_of_ne h2
  have q3 : (k == 3) = false := beq_false_of_ne h3
  clear h0 h1 h2 h3
  generalize nmW ((j : Int) + 1) = T at *
  replace hT := Lib.hid hT
  clear n0 n1
  replace hK := Lib.hid hK
  replace hI := Lib.hid hI
  go_enter Tryz.func138, Tryz.ntmps138
  go_wp2_with fail
  refine (HI.out _).mono ?_
  rintro e w1 ⟨rfl, rfl⟩
  go_wp2
  go_ret
  exact ⟨by rw [E.out, bs_empty]; try rfl, (Below.refl _ w).alloc (Nat.le_refl _) _⟩
set_option maxHeartbeats 1600000 in
set_option maxRecDepth 100000 in
theorem pDayWord_out0 (x : Int) (hx : ¬ (1 ≤ x ∧ x ≤ 7)) (n : Int) (n0 : -9223372036854775808 ≤ n) (n1 : n ≤ 9223372036854775807) (w : World) (hK : KX w) : Calls Tryz.prog 138 #[.agg #[.int .i64 0, .int .i64 n, .int .i64 x]] w fun e w' => e = .returned (.string (bs (dwL 0 n x))) ∧ Below w.heap.size w w' := by
  have hI : inI x 1 7 = false := inI_no hx
  have hT : nmW x = [] := if_neg hx
  have HI := pWithin15_p x 1 7
  rw [hI] at HI
  replace HI := Lib.hid HI
  have hl := nmW_len x
  have HN := Lib.hid (pItoa_any n n0 n1)
  have hn := nbI_len21 n0 n1
  have E : Hid (dwL 0 n x = nbI n) := Lib.hid rfl
  generalize nbI n = N at *
  clear n0 n1
  replace hK := Lib.hid hK
  replace hI := Lib.hid hI
  go_enter Tryz.func138, Tryz.ntmps138
  go_wp2_with fail
  refine (HI.out _).mono ?_
  rintro e w1 ⟨rfl, rfl⟩
  go_wp2_with fail
  refine (HN.out _ (kx_keep hK ((Below.refl _ w).alloc (Nat.le_refl _) _))).mono ?_
  rintro e w2 ⟨rfl, hb2⟩
  replace hb2 := Lib.hid hb2
  go_wp2
  go_ret
  exact ⟨by rw [E.out]; try rfl, ((Below.refl _ w).alloc (Nat.le_refl _) _).trans (hb2.out.mono (by simp))⟩
set_option maxHeartbeats 1600000 in
set_option maxRecDepth 100000 in
theorem pDayWord_out1 (x : Int) (hx : ¬ (1 ≤ x ∧ x ≤ 7)) (n : Int) (n0 : -9223372036854775808 ≤ n) (n1 : n ≤ 9223372036854775807) (w : World) (hK : KX w) : Calls Tryz.prog 138 #[.agg #[.int .i64 1, .int .i64 n, .int .i64 x]] w fun e w' => e = .returned (.string (bs (dwL 1 n x))) ∧ Below w.heap.size w w' := by
  have hI : inI x 1 7 = false := inI_no hx
  have hT : nmW x = [] := if_neg hx
  have HI := pWithin15_p x 1 7
  rw [hI] at HI
  replace HI := Lib.hid HI
  have hl := nmW_len x
  have E : Hid (dwL 1 n x = lastL ++ nmW x) := Lib.hid rfl
  have z0 := bs_size (nmW x)
  have a0 : (⟨#[108, 97, 115, 116, 45]⟩ : ByteArray) ++ bs (nmW x) = bs (lastL ++ nmW x) := by rw [lit_bs15, append_bs]; rfl
  have hm : ¬ (9223372036854775807 < 5 + (nmW x).length) := by omega
  generalize lastL ++ nmW x = S1 at *
  rw [hT] at *
  rw [bs_empty] at *
  simp only [List.length_nil] at *
  clear n0 n1
  replace hK := Lib.hid hK
  replace hI := Lib.hid hI
  go_enter Tryz.func138, Tryz.ntmps138
  go_wp2_with fail
  refine (HI.out _).mono ?_
  rintro e w1 ⟨rfl, rfl⟩
  go_wp2
  go_ret
  exact ⟨by rw [E.out]; try rfl, (Below.refl _ w).alloc (Nat.le_refl _) _⟩
set_option maxHeartbeats 1600000 in
set_option maxRecDepth 100000 in
theorem pDayWord_out2 (x : Int) (hx : ¬ (1 ≤ x ∧ x ≤ 7)) (n : Int) (n0 : -9223372036854775808 ≤ n) (n1 : n ≤ 9223372036854775807) (w : World) (hK : KX w) : Calls Tryz.prog 138 #[.agg #[.int .i64 2, .int .i64 n, .int .i64 x]] w fun e w' => e = .returned (.string (bs (dwL 2 n x))) ∧ Below w.heap.size w w' := by
  have hI : inI x 1 7 = false := inI_no hx
  have hT : nmW x = [] := if_neg hx
  have HI := pWithin15_p x 1 7
  rw [hI] at HI
  replace HI := Lib.hid HI
  have hl := nmW_len x
  have HN := Lib.hid (pItoa_any n n0 n1)
  have hn := nbI_len21 n0 n1
  have E : Hid (dwL 2 n x = nmW x ++ [62, 61] ++ nbI n) := Lib.hid rfl
  have z0 := bs_size (nmW x)
  have z1 := bs_size (nbI n)
  have a0 : bs (nmW x) ++ (⟨#[62, 61]⟩ : ByteArray) = bs (nmW x ++ [62, 61]) := by rw [lit_bs15, append_bs]
  have z2 : (bs (nmW x ++ [62, 61])).size = (nmW x).length + 2 := by rw [bs_size, List.length_append]; rfl
  have a1 : bs (nmW x ++ [62, 61]) ++ bs (nbI n) = bs (nmW x ++ [62, 61] ++ nbI n) := append_bs _ _
  have hm : ¬ (9223372036854775807 < (nmW x).length + 2) := by omega
  have hm2 : ¬ (9223372036854775807 < (nmW x).length + 2 + (nbI n).length) := by omega
  generalize nmW x ++ [62, 61] ++ nbI n = S2 at *
  generalize nmW x ++ [62, 61] = S1 at *
  generalize nbI n = N at *
  rw [hT] at *
  rw [bs_empty] at *
  simp only [List.length_nil] at *
  clear n0 n1
  replace hK := Lib.hid hK
  replace hI := Lib.hid hI
  go_enter Tryz.func138, Tryz.ntmps138
  go_wp2_with fail
  refine (HI.out _).mono ?_
  rintro e w1 ⟨rfl, rfl⟩
  go_wp2_with fail
  refine (HN.out _ (kx_keep hK ((Below.refl _ w).alloc (Nat.le_refl _) _))).mono ?_
  rintro e w2 ⟨rfl, hb2⟩
  replace hb2 := Lib.hid hb2
  go_wp2
  go_ret
  exact ⟨by rw [E.out]; try rfl, ((Below.refl _ w).alloc (Nat.le_refl _) _).trans (hb2.out.mono (by simp))⟩
set_option maxHeartbeats 1600000 in
set_option maxRecDepth 100000 in
theorem pDayWord_out3 (x : Int) (hx : ¬ (1 ≤ x ∧ x ≤ 7)) (n : Int) (n0 : -9223372036854775808 ≤ n) (n1 : n ≤ 9223372036854775807) (w : World) (hK : KX w) : Calls Tryz.prog 138 #[.agg #[.int .i64 3, .int .i64 n, .int .i64 x]] w fun e w' => e = .returned (.string (bs (dwL 3 n x))) ∧ Below w.heap.size w w' := by
  have hI : inI x 1 7 = false := inI_no hx
  have hT : nmW x = [] := if_neg hx
  have HI := pWithin15_p x 1 7
  rw [hI] at HI
  replace HI := Lib.hid HI
  have hl := nmW_len x
  have HN := Lib.hid (pItoa_any n n0 n1)
  have hn := nbI_len21 n0 n1
  have E : Hid (dwL 3 n x = nmW x ++ [60, 61] ++ nbI n) := Lib.hid rfl
  have z0 := bs_size (nmW x)
  have z1 := bs_size (nbI n)
  have a0 : bs (nmW x) ++ (⟨#[60, 61]⟩ : ByteArray) = bs (nmW x ++ [60, 61]) := by rw [lit_bs15, append_bs]
  have z2 : (bs (nmW x ++ [60, 61])).size = (nmW x).length + 2 := by rw [bs_size, List.length_append]; rfl
  have a1 : bs (nmW x ++ [60, 61]) ++ bs (nbI n) = bs (nmW x ++ [60, 61] ++ nbI n) := append_bs _ _
  have hm : ¬ (9223372036854775807 < (nmW x).length + 2) := by omega
  have hm2 : ¬ (9223372036854775807 < (nmW x).length + 2 + (nbI n).length) := by omega
  generalize nmW x ++ [60, 61] ++ nbI n = S2 at *
  generalize nmW x ++ [60, 61] = S1 at *
  generalize nbI n = N at *
  rw [hT] at *
  rw [bs_empty] at *
  simp only [List.length_nil] at *
  clear n0 n1
  replace hK := Lib.hid hK
  replace hI := Lib.hid hI
  go_enter Tryz.func138, Tryz.ntmps138
  go_wp2_with fail
  refine (HI.out _).mono ?_
  rintro e w1 ⟨rfl, rfl⟩
  go_wp2_with fail
  refine (HN.out _ (kx_keep hK ((Below.refl _ w).alloc (Nat.le_refl _) _))).mono ?_
  rintro e w2 ⟨rfl, hb2⟩
  replace hb2 := Lib.hid hb2
  go_wp2
  go_ret
  exact ⟨by rw [E.out]; try rfl, ((Below.refl _ w).alloc (Nat.le_refl _) _).trans (hb2.out.mono (by simp))⟩
set_option maxHeartbeats 1600000 in
set_option maxRecDepth 100000 in
theorem pDayWord_out4 (x : Int) (hx : ¬ (1 ≤ x ∧ x ≤ 7)) (k : Int) (h0 : k ≠ 0) (h1 : k ≠ 1) (h2 : k ≠ 2) (h3 : k ≠ 3) (n : Int) (n0 : -9223372036854775808 ≤ n) (n1 : n ≤ 9223372036854775807) (w : World) (hK : KX w) : Calls Tryz.prog 138 #[.agg #[.int .i64 k, .int .i64 n, .int .i64 x]] w fun e w' => e = .returned (.string (bs (dwL k n x))) ∧ Below w.heap.size w w' := by
  have hI : inI x 1 7 = false := inI_no hx
  have hT : nmW x = [] := if_neg hx
  have HI := pWithin15_p x 1 7
  rw [hI] at HI
  replace HI := Lib.hid HI
  have hl := nmW_len x
  have E : Hid (dwL k n x = []) := Lib.hid (by unfold dwL; rw [if_neg h0, if_neg h1, if_neg h2, if_neg h3])
  have q0 : (k == 0) = false := beq_false_of_ne h0
  have q1 : (k == 1) = false := beq_false_of_ne h1
  have q2 : (k == 2) = false := beq_false_of_ne h2
  have q3 : (k == 3) = false := beq_false_of_ne h3
  clear h0 h1 h2 h3
  clear n0 n1
  replace hK := Lib.hid hK
  replace hI := Lib.hid hI
  go_enter Tryz.func138, Tryz.ntmps138
  go_wp2_with fail
  refine (HI.out _).mono ?_
  rintro e w1 ⟨rfl, rfl⟩
  go_wp2
  go_ret
  exact ⟨by rw [E.out, bs_empty]; try rfl, (Below.refl _ w).alloc (Nat.le_refl _) _⟩
theorem pDayWord_any (k n x : Int) (n0 : -9223372036854775808 ≤ n) (n1 : n ≤ 9223372036854775807) (w : World) (hK : KX w) : Calls Tryz.prog 138 #[.agg #[.int .i64 k, .int .i64 n, .int .i64 x]] w fun e w' => e = .returned (.string (bs (dwL k n x))) ∧ Below w.heap.size w w' := by
  by_cases hx : 1 ≤ x ∧ x ≤ 7
  · obtain ⟨j, hj, rfl⟩ : ∃ j : Nat, j < 7 ∧ x = (j : Int) + 1 := ⟨(x - 1).toNat, by omega, by omega⟩
    by_cases h0 : k = 0
    · subst h0; exact pDayWord_in0 j hj n n0 n1 w hK
    by_cases h1 : k = 1
    · subst h1; exact pDayWord_in1 j hj n n0 n1 w hK
    by_cases h2 : k = 2
    · subst h2; exact pDayWord_in2 j hj n n0 n1 w hK
    by_cases h3 : k = 3
    · subst h3; exact pDayWord_in3 j hj n n0 n1 w hK
    exact pDayWord_in4 j hj k h0 h1 h2 h3 n n0 n1 w hK
  · by_cases h0 : k = 0
    · subst h0; exact pDayWord_out0 x hx n n0 n1 w hK
    by_cases h1 : k = 1
    · subst h1; exact pDayWord_out1 x hx n n0 n1 w hK
    by_cases h2 : k = 2
    · subst h2; exact pDayWord_out2 x hx n n0 n1 w hK
    by_cases h3 : k = 3
    · subst h3; exact pDayWord_out3 x hx n n0 n1 w hK
    exact pDayWord_out4 x hx k h0 h1 h2 h3 n n0 n1 w hK
end Go.Proofs.YtafecnlaodgmkaaGreatDoor
namespace Go.Proofs.YtafecnlaodgmkaaGreatDoor
set_option linter.unusedVariables false
set_option linter.unusedSimpArgs false
open Go.ChangeShapes Go.WideShapes Go.ChangeAt Go.RowKit
def linC (l : Lin) : Array Value := #[.int .i64 l.k, .int .i64 l.s, .int .i64 l.f, .int .i64 l.t, .int .i64 l.m, .int .i64 l.dk, .int .i64 l.dn, .int .i64 l.dw, .int .i64 l.ti, .int .i64 l.rd, .int .i64 l.off, .bool l.dst, .string (bs l.abb)]
structure LiH (w0 w : World) (l : Lin) : Prop where
  z : w.heap[w0.heap.size]? = some (.cells (linC lin0) 58 (0, 0))
  row : w.heap[w0.heap.size + 1]? = some (.cells (linC l) 58 (0, 0))
  bel : Below w0.heap.size w0 w
section
variable {w0 w w' : World} {l : Lin}
theorem LiH.lt (h : LiH w0 w l) : w0.heap.size + 1 < w.heap.size := (Array.getElem?_eq_some_iff.1 h.row).1
theorem LiH.call (h : LiH w0 w l) (hb : Below w.heap.size w w') : LiH w0 w' l :=
  ⟨(hb.block _ (by have := h.lt; omega)).trans h.z, (hb.block _ h.lt).trans h.row, h.bel.trans (hb.mono h.bel.size)⟩
theorem LiH.set (h : LiH w0 w l) (j : Nat) (a : Value) (l' : Lin) (hr : (linC l).setIfInBounds j a = linC l') : LiH w0 (w.setCell ⟨w0.heap.size + 1, j, none⟩ a) l' :=
  ⟨row_other1 (by omega) h.z j a, by rw [row_set1 h.row, hr], h.bel.setCell (by show w0.heap.size ≤ w0.heap.size + 1; omega) _⟩
theorem LiH.fz (h : LiH w0 w l) (j : Nat) : w.frozen? ⟨w0.heap.size + 1, j, none⟩ = false := Lib.frozen_of_heap h.row j
theorem LiH.at_ (h : LiH w0 w l) (j : Nat) (hj : j < 13) : w.cell? ⟨w0.heap.size + 1, j, none⟩ = (linC l)[j]? := by rw [Lib.cell_of_heap h.row]
end
theorem LiH.drew {w0 w : World} {l : Lin} (h : LiH w0 w l) : LiH w0 w.drew l := ⟨h.z, h.row, h.bel.drew⟩
end Go.Proofs.YtafecnlaodgmkaaGreatDoor
namespace Go.Proofs.YtafecnlaodgmkaaGreatDoor
set_option linter.unusedVariables false
set_option linter.unusedSimpArgs false
open Go.ChangeShapes Go.WideShapes Go.ChangeAt Go.RowKit
theorem nmW_ok {x : Int} (h : 1 ≤ x ∧ x ≤ 7) : nmW x = wkS x := if_pos h
theorem dwL_ruD {k n x : Int} (h : mayD k n x = true) : dwL k n x = ruD k n x := by
  rcases mayD_parts h with ⟨rfl, _, rfl⟩ | ⟨rfl, hx, rfl⟩ | ⟨rfl, hx, _⟩ | ⟨rfl, hx, _⟩
  · unfold dwL ruD; rfl
  · unfold dwL ruD; rw [nmW_ok hx]; rfl
  · unfold dwL ruD; rw [nmW_ok hx]; rfl
  · unfold dwL ruD; rw [nmW_ok hx]; rfl
theorem told_iff (k n x : Int) : ((dayR (dwL k n x)).2.2.2 = 0 ∧ (dayR (dwL k n x)).1 = k ∧ (dayR (dwL k n x)).2.1 = n ∧ (dayR (dwL k n x)).2.2.1 = x) ↔ mayD k n x = true := by
  constructor
  · rintro ⟨h0, h1, h2, h3⟩
    have := day_in h0
    rwa [h1, h2, h3] at this
  · intro h
    rw [dwL_ruD h, (day_back h).1]
    exact ⟨rfl, rfl, rfl, rfl⟩
theorem dwL_len (k n x : Int) (h0 : -9223372036854775808 ≤ n) (h1 : n ≤ 9223372036854775807) : (dwL k n x).length ≤ 100000 := by
  have a := nbI_len21 h0 h1
  have b := nmW_len x
  unfold dwL
  split
  · omega
  · split
    · rw [List.length_append]; have : lastL.length = 5 := rfl; omega
    · split
      · rw [List.length_append, List.length_append]; simp; omega
      · split
        · rw [List.length_append, List.length_append]; simp; omega
        · simp
set_option maxHeartbeats 1600000 in
set_option maxRecDepth 100000 in
theorem pTold_any (k n x : Int) (n0 : -9223372036854775808 ≤ n) (n1 : n ≤ 9223372036854775807) (w : World) (hK : KX w) : Calls Tryz.prog 118 #[.agg #[.int .i64 k, .int .i64 n, .int .i64 x]] w fun e w' => e = .returned (.bool (mayD k n x)) ∧ Below w.heap.size w w' := by
  have HD := Lib.hid (pDayWord_any k n x n0 n1)
  have XW := pDay_any (dwL k n x) (dwL_len k n x n0 n1)
  have HT := told_iff k n x
  generalize dwL k n x = L at *
  generalize dayR L = R at *
  obtain ⟨a, b, c, e⟩ := R
  simp only at XW HT
  clear n0 n1
  replace hK := Lib.hid hK
  have hTw : Hid (TW w) := Lib.hid hK.out.tw
  have hM := hK
  by_cases h0 : e = 0
  · by_cases h1 : a = k
    · by_cases h2 : b = n
      · by_cases h3 : c = x
        · have E : Hid (mayD k n x = true) := Lib.hid (HT.1 ⟨h0, h1, h2, h3⟩)
          have HW := Lib.hid XW
          clear XW HT
          have q0 : (e == 0) = true := by rw [h0]; rfl
          have q1 : (a == k) = true := by rw [h1]; exact beq_self_eq_true k
          have q2 : (b == n) = true := by rw [h2]; exact beq_self_eq_true n
          have q3 : (c == x) = true := by rw [h3]; exact beq_self_eq_true x
          replace h0 := Lib.hid h0
          replace h1 := Lib.hid h1
          replace h2 := Lib.hid h2
          replace h3 := Lib.hid h3
          go_enter Tryz.func118, Tryz.ntmps118
          go_wp2_with fail
          
          refine (HD.out _ (by first | exact kx_keep hM ((Below.refl w.heap.size w).alloc (Nat.le_refl _) _))).mono ?_
          rintro e V1 ⟨rfl, hb1⟩
          have B1 := nby hb1
          have D1 := Lib.hid (row_call hb1 (heap_alloc_new _ _))
          clear hb1
          obtain ⟨D1_0, D1_1, D1_2⟩ := qw3 D1
          have zD1 := lt_of_heap D1.out
          go_simp
          go_wp2_with fail
          refine (HW.out _ (tw_keep hTw B1.out)).mono ?_
          rintro e9 w9 ⟨rfl, hb9⟩
          have B9 := Lib.hid (B1.out.trans (hb9.mono B1.out.size))
          have D9 := row_call hb9 D1.out
          have d0 : w9.cell? ⟨w.heap.size, 0, none⟩ = some (.int .i64 k) := cry D9
          have d1 : w9.cell? ⟨w.heap.size, 1, none⟩ = some (.int .i64 n) := cry D9
          have d2 : w9.cell? ⟨w.heap.size, 2, none⟩ = some (.int .i64 x) := cry D9
          have dl := lt_of_heap D9
          clear hb9 D9 D1_0 D1_1 D1_2
          replace D1 := Lib.hid D1
          go_wp2
          go_ret
          exact ⟨by rw [E.out]; try rfl, B9.out.alloc B9.out.size _⟩
        · have E : Hid (mayD k n x = false) := Lib.hid (by rw [Bool.eq_false_iff]; intro q; have := HT.2 q; omega)
          have HW := Lib.hid XW
          clear XW HT
          have q0 : (e == 0) = true := by rw [h0]; rfl
          have q1 : (a == k) = true := by rw [h1]; exact beq_self_eq_true k
          have q2 : (b == n) = true := by rw [h2]; exact beq_self_eq_true n
          have q3 : (c == x) = false := beq_false_of_ne h3
          replace h0 := Lib.hid h0
          replace h1 := Lib.hid h1
          replace h2 := Lib.hid h2
          replace h3 := Lib.hid h3
          go_enter Tryz.func118, Tryz.ntmps118
          go_wp2_with fail
          
          refine (HD.out _ (by first | exact kx_keep hM ((Below.refl w.heap.size w).alloc (Nat.le_refl _) _))).mono ?_
          rintro e V1 ⟨rfl, hb1⟩
          have B1 := nby hb1
          have D1 := Lib.hid (row_call hb1 (heap_alloc_new _ _))
          clear hb1
          obtain ⟨D1_0, D1_1, D1_2⟩ := qw3 D1
          have zD1 := lt_of_heap D1.out
          go_simp
          go_wp2_with fail
          refine (HW.out _ (tw_keep hTw B1.out)).mono ?_
          rintro e9 w9 ⟨rfl, hb9⟩
          have B9 := Lib.hid (B1.out.trans (hb9.mono B1.out.size))
          have D9 := row_call hb9 D1.out
          have d0 : w9.cell? ⟨w.heap.size, 0, none⟩ = some (.int .i64 k) := cry D9
          have d1 : w9.cell? ⟨w.heap.size, 1, none⟩ = some (.int .i64 n) := cry D9
          have d2 : w9.cell? ⟨w.heap.size, 2, none⟩ = some (.int .i64 x) := cry D9
          have dl := lt_of_heap D9
          clear hb9 D9 D1_0 D1_1 D1_2
          replace D1 := Lib.hid D1
          go_wp2
          go_ret
          exact ⟨by rw [E.out]; try rfl, B9.out.alloc B9.out.size _⟩
      · have E : Hid (mayD k n x = false) := Lib.hid (by rw [Bool.eq_false_iff]; intro q; have := HT.2 q; omega)
        have HW := Lib.hid XW
        clear XW HT
        have q0 : (e == 0) = true := by rw [h0]; rfl
        have q1 : (a == k) = true := by rw [h1]; exact beq_self_eq_true k
        have q2 : (b == n) = false := beq_false_of_ne h2
        replace h0 := Lib.hid h0
        replace h1 := Lib.hid h1
        replace h2 := Lib.hid h2
        go_enter Tryz.func118, Tryz.ntmps118
        go_wp2_with fail
        
        refine (HD.out _ (by first | exact kx_keep hM ((Below.refl w.heap.size w).alloc (Nat.le_refl _) _))).mono ?_
        rintro e V1 ⟨rfl, hb1⟩
        have B1 := nby hb1
        have D1 := Lib.hid (row_call hb1 (heap_alloc_new _ _))
        clear hb1
        obtain ⟨D1_0, D1_1, D1_2⟩ := qw3 D1
        have zD1 := lt_of_heap D1.out
        go_simp
        go_wp2_with fail
        refine (HW.out _ (tw_keep hTw B1.out)).mono ?_
        rintro e9 w9 ⟨rfl, hb9⟩
        have B9 := Lib.hid (B1.out.trans (hb9.mono B1.out.size))
        have D9 := row_call hb9 D1.out
        have d0 : w9.cell? ⟨w.heap.size, 0, none⟩ = some (.int .i64 k) := cry D9
        have d1 : w9.cell? ⟨w.heap.size, 1, none⟩ = some (.int .i64 n) := cry D9
        have d2 : w9.cell? ⟨w.heap.size, 2, none⟩ = some (.int .i64 x) := cry D9
        have dl := lt_of_heap D9
        clear hb9 D9 D1_0 D1_1 D1_2
        replace D1 := Lib.hid D1
        go_wp2
        go_ret
        exact ⟨by rw [E.out]; try rfl, B9.out.alloc B9.out.size _⟩
    · have E : Hid (mayD k n x = false) := Lib.hid (by rw [Bool.eq_false_iff]; intro q; have := HT.2 q; omega)
      have HW := Lib.hid XW
      clear XW HT
      have q0 : (e == 0) = true := by rw [h0]; rfl
      have q1 : (a == k) = false := beq_false_of_ne h1
      replace h0 := Lib.hid h0
      replace h1 := Lib.hid h1
      go_enter Tryz.func118, Tryz.ntmps118
      go_wp2_with fail
      
      refine (HD.out _ (by first | exact kx_keep hM ((Below.refl w.heap.size w).alloc (Nat.le_refl _) _))).mono ?_
      rintro e V1 ⟨rfl, hb1⟩
      have B1 := nby hb1
      have D1 := Lib.hid (row_call hb1 (heap_alloc_new _ _))
      clear hb1
      obtain ⟨D1_0, D1_1, D1_2⟩ := qw3 D1
      have zD1 := lt_of_heap D1.out
      go_simp
      go_wp2_with fail
      refine (HW.out _ (tw_keep hTw B1.out)).mono ?_
      rintro e9 w9 ⟨rfl, hb9⟩
      have B9 := Lib.hid (B1.out.trans (hb9.mono B1.out.size))
      have D9 := row_call hb9 D1.out
      have d0 : w9.cell? ⟨w.heap.size, 0, none⟩ = some (.int .i64 k) := cry D9
      have d1 : w9.cell? ⟨w.heap.size, 1, none⟩ = some (.int .i64 n) := cry D9
      have d2 : w9.cell? ⟨w.heap.size, 2, none⟩ = some (.int .i64 x) := cry D9
      have dl := lt_of_heap D9
      clear hb9 D9 D1_0 D1_1 D1_2
      replace D1 := Lib.hid D1
      go_wp2
      go_ret
      exact ⟨by rw [E.out]; try rfl, B9.out.alloc B9.out.size _⟩
  · have E : Hid (mayD k n x = false) := Lib.hid (by rw [Bool.eq_false_iff]; intro q; have := HT.2 q; omega)
    have HW := Lib.hid XW
    clear XW HT
    have q0 : (e == 0) = false := beq_false_of_ne h0
    replace h0 := Lib.hid h0
    go_enter Tryz.func118, Tryz.ntmps118
    go_wp2_with fail
    
    refine (HD.out _ (by first | exact kx_keep hM ((Below.refl w.heap.size w).alloc (Nat.le_refl _) _))).mono ?_
    rintro e V1 ⟨rfl, hb1⟩
    have B1 := nby hb1
    have D1 := Lib.hid (row_call hb1 (heap_alloc_new _ _))
    clear hb1
    obtain ⟨D1_0, D1_1, D1_2⟩ := qw3 D1
    have zD1 := lt_of_heap D1.out
    go_simp
    go_wp2_with fail
    refine (HW.out _ (tw_keep hTw B1.out)).mono ?_
    rintro e9 w9 ⟨rfl, hb9⟩
    have B9 := Lib.hid (B1.out.trans (hb9.mono B1.out.size))
    have D9 := row_call hb9 D1.out
    have d0 : w9.cell? ⟨w.heap.size, 0, none⟩ = some (.int .i64 k) := cry D9
    have d1 : w9.cell? ⟨w.heap.size, 1, none⟩ = some (.int .i64 n) := cry D9
    have d2 : w9.cell? ⟨w.heap.size, 2, none⟩ = some (.int .i64 x) := cry D9
    have dl := lt_of_heap D9
    clear hb9 D9 D1_0 D1_1 D1_2
    replace D1 := Lib.hid D1
    go_wp2
    go_ret
    exact ⟨by rw [E.out]; try rfl, B9.out.alloc B9.out.size _⟩
set_option maxHeartbeats 1600000 in
set_option maxRecDepth 100000 in
theorem mnAt_f (s f t m dk dn dw ti rd off : Int) (dst : Bool) (S : ByteArray) (h : f ≠ 0) (w : World) :
    Calls Tryz.prog 90 #[.agg #[.int .i64 1, .int .i64 s, .int .i64 f, .int .i64 t, .int .i64 m, .int .i64 dk, .int .i64 dn, .int .i64 dw, .int .i64 ti, .int .i64 rd, .int .i64 off, .bool dst, .string S]] w fun e w' => e = .returned (.bool true) ∧ Below w.heap.size w w' := by
  have h1 : (f == 0) = false := beq_eq_false_iff_ne.2 h
  have h2 : (f != 0) = true := by rw [bne_iff_ne]; exact h
  go_enter Tryz.func90, Tryz.ntmps90
  go_wp2
  go_ret
  exact ⟨rfl, (Below.refl _ _).alloc (Nat.le_refl _) _⟩
set_option maxHeartbeats 1600000 in
set_option maxRecDepth 100000 in
theorem mnAt_t (s t m dk dn dw ti rd off : Int) (dst : Bool) (S : ByteArray) (h : t ≠ 0) (w : World) :
    Calls Tryz.prog 90 #[.agg #[.int .i64 1, .int .i64 s, .int .i64 0, .int .i64 t, .int .i64 m, .int .i64 dk, .int .i64 dn, .int .i64 dw, .int .i64 ti, .int .i64 rd, .int .i64 off, .bool dst, .string S]] w fun e w' => e = .returned (.bool true) ∧ Below w.heap.size w w' := by
  have h1 : (t == 0) = false := beq_eq_false_iff_ne.2 h
  have h2 : (t != 0) = true := by rw [bne_iff_ne]; exact h
  go_enter Tryz.func90, Tryz.ntmps90
  go_wp2
  go_ret
  exact ⟨rfl, (Below.refl _ _).alloc (Nat.le_refl _) _⟩
set_option maxHeartbeats 1600000 in
set_option maxRecDepth 100000 in
theorem mnAt_m (s m dk dn dw ti rd off : Int) (dst : Bool) (S : ByteArray) (h : m ≠ 0) (w : World) :
    Calls Tryz.prog 90 #[.agg #[.int .i64 1, .int .i64 s, .int .i64 0, .int .i64 0, .int .i64 m, .int .i64 dk, .int .i64 dn, .int .i64 dw, .int .i64 ti, .int .i64 rd, .int .i64 off, .bool dst, .string S]] w fun e w' => e = .returned (.bool true) ∧ Below w.heap.size w w' := by
  have h1 : (m == 0) = false := beq_eq_false_iff_ne.2 h
  have h2 : (m != 0) = true := by rw [bne_iff_ne]; exact h
  go_enter Tryz.func90, Tryz.ntmps90
  go_wp2
  go_ret
  exact ⟨rfl, (Below.refl _ _).alloc (Nat.le_refl _) _⟩
set_option maxHeartbeats 1600000 in
set_option maxRecDepth 100000 in
theorem mnAt_dk (s dk dn dw ti rd off : Int) (dst : Bool) (S : ByteArray) (h : dk ≠ 0) (w : World) :
    Calls Tryz.prog 90 #[.agg #[.int .i64 1, .int .i64 s, .int .i64 0, .int .i64 0, .int .i64 0, .int .i64 dk, .int .i64 dn, .int .i64 dw, .int .i64 ti, .int .i64 rd, .int .i64 off, .bool dst, .string S]] w fun e w' => e = .returned (.bool true) ∧ Below w.heap.size w w' := by
  have h1 : (dk == 0) = false := beq_eq_false_iff_ne.2 h
  have h2 : (dk != 0) = true := by rw [bne_iff_ne]; exact h
  go_enter Tryz.func90, Tryz.ntmps90
  go_wp2
  go_ret
  exact ⟨rfl, (Below.refl _ _).alloc (Nat.le_refl _) _⟩
set_option maxHeartbeats 1600000 in
set_option maxRecDepth 100000 in
theorem mnAt_dn (s dn dw ti rd off : Int) (dst : Bool) (S : ByteArray) (h : dn ≠ 0) (w : World) :
    Calls Tryz.prog 90 #[.agg #[.int .i64 1, .int .i64 s, .int .i64 0, .int .i64 0, .int .i64 0, .int .i64 0, .int .i64 dn, .int .i64 dw, .int .i64 ti, .int .i64 rd, .int .i64 off, .bool dst, .string S]] w fun e w' => e = .returned (.bool true) ∧ Below w.heap.size w w' := by
  have h1 : (dn == 0) = false := beq_eq_false_iff_ne.2 h
  have h2 : (dn != 0) = true := by rw [bne_iff_ne]; exact h
  go_enter Tryz.func90, Tryz.ntmps90
  go_wp2
  go_ret
  exact ⟨rfl, (Below.refl _ _).alloc (Nat.le_refl _) _⟩
set_option maxHeartbeats 1600000 in
set_option maxRecDepth 100000 in
theorem mnAt_dw (s dw ti rd off : Int) (dst : Bool) (S : ByteArray) (h : dw ≠ 0) (w : World) :
    Calls Tryz.prog 90 #[.agg #[.int .i64 1, .int .i64 s, .int .i64 0, .int .i64 0, .int .i64 0, .int .i64 0, .int .i64 0, .int .i64 dw, .int .i64 ti, .int .i64 rd, .int .i64 off, .bool dst, .string S]] w fun e w' => e = .returned (.bool true) ∧ Below w.heap.size w w' := by
  have h1 : (dw == 0) = false := beq_eq_false_iff_ne.2 h
  have h2 : (dw != 0) = true := by rw [bne_iff_ne]; exact h
  go_enter Tryz.func90, Tryz.ntmps90
  go_wp2
  go_ret
  exact ⟨rfl, (Below.refl _ _).alloc (Nat.le_refl _) _⟩
set_option maxHeartbeats 1600000 in
set_option maxRecDepth 100000 in
theorem mnAt_ti (s ti rd off : Int) (dst : Bool) (S : ByteArray) (h : ti ≠ 0) (w : World) :
    Calls Tryz.prog 90 #[.agg #[.int .i64 1, .int .i64 s, .int .i64 0, .int .i64 0, .int .i64 0, .int .i64 0, .int .i64 0, .int .i64 0, .int .i64 ti, .int .i64 rd, .int .i64 off, .bool dst, .string S]] w fun e w' => e = .returned (.bool true) ∧ Below w.heap.size w w' := by
  have h1 : (ti == 0) = false := beq_eq_false_iff_ne.2 h
  have h2 : (ti != 0) = true := by rw [bne_iff_ne]; exact h
  go_enter Tryz.func90, Tryz.ntmps90
  go_wp2
  go_ret
  exact ⟨rfl, (Below.refl _ _).alloc (Nat.le_refl _) _⟩
set_option maxHeartbeats 1600000 in
set_option maxRecDepth 100000 in
theorem mnAt_rd (s rd off : Int) (dst : Bool) (S : ByteArray) (h : rd ≠ 0) (w : World) :
    Calls Tryz.prog 90 #[.agg #[.int .i64 1, .int .i64 s, .int .i64 0, .int .i64 0, .int .i64 0, .int .i64 0, .int .i64 0, .int .i64 0, .int .i64 0, .int .i64 rd, .int .i64 off, .bool dst, .string S]] w fun e w' => e = .returned (.bool true) ∧ Below w.heap.size w w' := by
  have h1 : (rd == 0) = false := beq_eq_false_iff_ne.2 h
  have h2 : (rd != 0) = true := by rw [bne_iff_ne]; exact h
  go_enter Tryz.func90, Tryz.ntmps90
  go_wp2
  go_ret
  exact ⟨rfl, (Below.refl _ _).alloc (Nat.le_refl _) _⟩
set_option maxHeartbeats 1600000 in
set_option maxRecDepth 100000 in
theorem mnAt_ok (s off : Int) (dst : Bool) (S : ByteArray) (w : World) :
    Calls Tryz.prog 90 #[.agg #[.int .i64 1, .int .i64 s, .int .i64 0, .int .i64 0, .int .i64 0, .int .i64 0, .int .i64 0, .int .i64 0, .int .i64 0, .int .i64 0, .int .i64 off, .bool dst, .string S]] w fun e w' => e = .returned (.bool false) ∧ Below w.heap.size w w' := by
  go_enter Tryz.func90, Tryz.ntmps90
  go_wp2
  go_ret
  exact ⟨rfl, (Below.refl _ _).alloc (Nat.le_refl _) _⟩
set_option maxHeartbeats 1600000 in
set_option maxRecDepth 100000 in
theorem mnKind (k s f t m dk dn dw ti rd off : Int) (dst : Bool) (S : ByteArray) (h1 : k ≠ 1) (h2 : k ≠ 2) (w : World) :
    Calls Tryz.prog 90 #[.agg #[.int .i64 k, .int .i64 s, .int .i64 f, .int .i64 t, .int .i64 m, .int .i64 dk, .int .i64 dn, .int .i64 dw, .int .i64 ti, .int .i64 rd, .int .i64 off, .bool dst, .string S]] w fun e w' => e = .returned (.bool true) ∧ Below w.heap.size w w' := by
  have e1 : (k == 1) = false := beq_eq_false_iff_ne.2 h1
  have e2 : (k == 2) = false := beq_eq_false_iff_ne.2 h2
  go_enter Tryz.func90, Tryz.ntmps90
  go_wp2
  go_ret
  exact ⟨rfl, (Below.refl _ _).alloc (Nat.le_refl _) _⟩
set_option maxHeartbeats 1600000 in
set_option maxRecDepth 100000 in
theorem mnRu_0 (s f t m dk dn dw ti rd off : Int) (dst : Bool) (S : ByteArray) (h : s ≠ 0) (w : World) (hK : Hid (KX w)) :
    Calls Tryz.prog 90 #[.agg #[.int .i64 2, .int .i64 s, .int .i64 f, .int .i64 t, .int .i64 m, .int .i64 dk, .int .i64 dn, .int .i64 dw, .int .i64 ti, .int .i64 rd, .int .i64 off, .bool dst, .string S]] w fun e w' => e = .returned (.bool true) ∧ Below w.heap.size w w' := by
  have h1 : (s != 0) = true := by rw [bne_iff_ne]; exact h
  go_enter Tryz.func90, Tryz.ntmps90
  go_wp2
  go_ret
  exact ⟨rfl, (Below.refl _ _).alloc (Nat.le_refl _) _⟩
set_option maxHeartbeats 1600000 in
set_option maxRecDepth 100000 in
theorem mnRu_1 (f t m dk dn dw ti rd off : Int) (dst : Bool) (S : ByteArray) (HY : Hid (∀ w, KX w → Calls Tryz.prog 116 #[.int .i64 f, .int .i64 t] w fun e w' => e = .returned (.bool false) ∧ Below w.heap.size w w')) (w : World) (hK : Hid (KX w)) :
    Calls Tryz.prog 90 #[.agg #[.int .i64 2, .int .i64 0, .int .i64 f, .int .i64 t, .int .i64 m, .int .i64 dk, .int .i64 dn, .int .i64 dw, .int .i64 ti, .int .i64 rd, .int .i64 off, .bool dst, .string S]] w fun e w' => e = .returned (.bool true) ∧ Below w.heap.size w w' := by
  go_enter Tryz.func90, Tryz.ntmps90
  have hM := hK
  go_wp2_with fail
  
  refine (HY.out _ (by first | exact kx_keep hM ((Below.refl w.heap.size w).alloc (Nat.le_refl _) _))).mono ?_
  rintro e V1 ⟨rfl, hb1⟩
  have B1 := nby hb1
  have A1 := Lib.hid (row_call hb1 (heap_alloc_new _ _))
  clear hb1
  obtain ⟨A1_0, A1_1, A1_2, A1_3, A1_4, A1_5, A1_6, A1_7, A1_8, A1_9, A1_10, A1_11, A1_12⟩ := qw13 A1
  have zA1 := lt_of_heap A1.out
  go_simp
  go_wp2
  go_ret
  exact ⟨rfl, B1.out⟩
set_option maxHeartbeats 1600000 in
set_option maxRecDepth 100000 in
theorem mnRu_2 (f t m dk dn dw ti rd off : Int) (dst : Bool) (S : ByteArray) (HY : Hid (∀ w, KX w → Calls Tryz.prog 116 #[.int .i64 f, .int .i64 t] w fun e w' => e = .returned (.bool true) ∧ Below w.heap.size w w')) (HM : Hid (∀ w, KX w → Calls Tryz.prog 117 #[.int .i64 m, .int .i64 1, .int .i64 12] w fun e w' => e = .returned (.bool false) ∧ Below w.heap.size w w')) (w : World) (hK : Hid (KX w)) :
    Calls Tryz.prog 90 #[.agg #[.int .i64 2, .int .i64 0, .int .i64 f, .int .i64 t, .int .i64 m, .int .i64 dk, .int .i64 dn, .int .i64 dw, .int .i64 ti, .int .i64 rd, .int .i64 off, .bool dst, .string S]] w fun e w' => e = .returned (.bool true) ∧ Below w.heap.size w w' := by
  go_enter Tryz.func90, Tryz.ntmps90
  have hM := hK
  go_wp2_with fail
  
  refine (HY.out _ (by first | exact kx_keep hM ((Below.refl w.heap.size w).alloc (Nat.le_refl _) _))).mono ?_
  rintro e V1 ⟨rfl, hb1⟩
  have B1 := nby hb1
  have A1 := Lib.hid (row_call hb1 (heap_alloc_new _ _))
  clear hb1
  obtain ⟨A1_0, A1_1, A1_2, A1_3, A1_4, A1_5, A1_6, A1_7, A1_8, A1_9, A1_10, A1_11, A1_12⟩ := qw13 A1
  have zA1 := lt_of_heap A1.out
  go_simp
  go_wp2_with fail
  refine (HM.out _ (by first | exact kx_keep hM (B1.out) | exact kx_keep hM ((B1.out).alloc (B1.out.size) _) | exact kx_keep hM (((B1.out).alloc (B1.out.size) _).alloc (by have := B1.out.size; simp <;> omega) _) | exact kx_keep hM ((((B1.out).alloc (B1.out.size) _).alloc (by have := B1.out.size; simp <;> omega) _).alloc (by have := B1.out.size; simp <;> omega) _))).mono ?_
  rintro e V2 ⟨rfl, hb2⟩
  clear A1_0 A1_1 A1_2 A1_3 A1_4 A1_5 A1_6 A1_7 A1_8 A1_9 A1_10 A1_11 A1_12 zA1
  have B2 : Hid (Below w.heap.size w V2) := nbx B1 hb2
  replace A1 := rcx hb2 A1
  clear hb2
  obtain ⟨A1_0, A1_1, A1_2, A1_3, A1_4, A1_5, A1_6, A1_7, A1_8, A1_9, A1_10, A1_11, A1_12⟩ := qw13 A1
  have zA1 := lt_of_heap A1.out
  go_simp
  go_wp2
  go_ret
  exact ⟨rfl, B2.out⟩
set_option maxHeartbeats 1600000 in
set_option maxRecDepth 100000 in
theorem mnRu_3 (f t m dk dn dw ti rd off : Int) (dst : Bool) (S : ByteArray) (HY : Hid (∀ w, KX w → Calls Tryz.prog 116 #[.int .i64 f, .int .i64 t] w fun e w' => e = .returned (.bool true) ∧ Below w.heap.size w w')) (HM : Hid (∀ w, KX w → Calls Tryz.prog 117 #[.int .i64 m, .int .i64 1, .int .i64 12] w fun e w' => e = .returned (.bool true) ∧ Below w.heap.size w w')) (HD : Hid (∀ w, KX w → Calls Tryz.prog 118 #[.agg #[.int .i64 dk, .int .i64 dn, .int .i64 dw]] w fun e w' => e = .returned (.bool false) ∧ Below w.heap.size w w')) (w : World) (hK : Hid (KX w)) :
    Calls Tryz.prog 90 #[.agg #[.int .i64 2, .int .i64 0, .int .i64 f, .int .i64 t, .int .i64 m, .int .i64 dk, .int .i64 dn, .int .i64 dw, .int .i64 ti, .int .i64 rd, .int .i64 off, .bool dst, .string S]] w fun e w' => e = .returned (.bool true) ∧ Below w.heap.size w w' := by
  go_enter Tryz.func90, Tryz.ntmps90
  have hM := hK
  go_wp2_with fail
  
  refine (HY.out _ (by first | exact kx_keep hM ((Below.refl w.heap.size w).alloc (Nat.le_refl _) _))).mono ?_
  rintro e V1 ⟨rfl, hb1⟩
  have B1 := nby hb1
  have A1 := Lib.hid (row_call hb1 (heap_alloc_new _ _))
  clear hb1
  obtain ⟨A1_0, A1_1, A1_2, A1_3, A1_4, A1_5, A1_6, A1_7, A1_8, A1_9, A1_10, A1_11, A1_12⟩ := qw13 A1
  have zA1 := lt_of_heap A1.out
  go_simp
  go_wp2_with fail
  refine (HM.out _ (by first | exact kx_keep hM (B1.out) | exact kx_keep hM ((B1.out).alloc (B1.out.size) _) | exact kx_keep hM (((B1.out).alloc (B1.out.size) _).alloc (by have := B1.out.size; simp <;> omega) _) | exact kx_keep hM ((((B1.out).alloc (B1.out.size) _).alloc (by have := B1.out.size; simp <;> omega) _).alloc (by have := B1.out.size; simp <;> omega) _))).mono ?_
  rintro e V2 ⟨rfl, hb2⟩
  clear A1_0 A1_1 A1_2 A1_3 A1_4 A1_5 A1_6 A1_7 A1_8 A1_9 A1_10 A1_11 A1_12 zA1
  have B2 : Hid (Below w.heap.size w V2) := nbx B1 hb2
  replace A1 := rcx hb2 A1
  clear hb2
  obtain ⟨A1_0, A1_1, A1_2, A1_3, A1_4, A1_5, A1_6, A1_7, A1_8, A1_9, A1_10, A1_11, A1_12⟩ := qw13 A1
  have zA1 := lt_of_heap A1.out
  go_simp
  go_wp2_with fail
  refine (HD.out _ (by first | exact kx_keep hM (B2.out) | exact kx_keep hM ((B2.out).alloc (B2.out.size) _) | exact kx_keep hM (((B2.out).alloc (B2.out.size) _).alloc (by have := B2.out.size; simp <;> omega) _) | exact kx_keep hM ((((B2.out).alloc (B2.out.size) _).alloc (by have := B2.out.size; simp <;> omega) _).alloc (by have := B2.out.size; simp <;> omega) _))).mono ?_
  rintro e V3 ⟨rfl, hb3⟩
  clear A1_0 A1_1 A1_2 A1_3 A1_4 A1_5 A1_6 A1_7 A1_8 A1_9 A1_10 A1_11 A1_12 zA1
  have B3 : Hid (Below w.heap.size w V3) := nbx B2 hb3
  replace A1 := rcx hb3 A1
  clear hb3
  obtain ⟨A1_0, A1_1, A1_2, A1_3, A1_4, A1_5, A1_6, A1_7, A1_8, A1_9, A1_10, A1_11, A1_12⟩ := qw13 A1
  have zA1 := lt_of_heap A1.out
  go_simp
  go_wp2
  go_ret
  exact ⟨rfl, B3.out⟩
set_option maxHeartbeats 1600000 in
set_option maxRecDepth 100000 in
theorem mnRu_4 (f t m dk dn dw ti rd off : Int) (dst : Bool) (S : ByteArray) (HY : Hid (∀ w, KX w → Calls Tryz.prog 116 #[.int .i64 f, .int .i64 t] w fun e w' => e = .returned (.bool true) ∧ Below w.heap.size w w')) (HM : Hid (∀ w, KX w → Calls Tryz.prog 117 #[.int .i64 m, .int .i64 1, .int .i64 12] w fun e w' => e = .returned (.bool true) ∧ Below w.heap.size w w')) (HD : Hid (∀ w, KX w → Calls Tryz.prog 118 #[.agg #[.int .i64 dk, .int .i64 dn, .int .i64 dw]] w fun e w' => e = .returned (.bool true) ∧ Below w.heap.size w w')) (HT : Hid (∀ w, KX w → Calls Tryz.prog 117 #[.int .i64 ti, .int .i64 0, .int .i64 86400] w fun e w' => e = .returned (.bool false) ∧ Below w.heap.size w w')) (w : World) (hK : Hid (KX w)) :
    Calls Tryz.prog 90 #[.agg #[.int .i64 2, .int .i64 0, .int .i64 f, .int .i64 t, .int .i64 m, .int .i64 dk, .int .i64 dn, .int .i64 dw, .int .i64 ti, .int .i64 rd, .int .i64 off, .bool dst, .string S]] w fun e w' => e = .returned (.bool true) ∧ Below w.heap.size w w' := by
  go_enter Tryz.func90, Tryz.ntmps90
  have hM := hK
  go_wp2_with fail
  
  refine (HY.out _ (by first | exact kx_keep hM ((Below.refl w.heap.size w).alloc (Nat.le_refl _) _))).mono ?_
  rintro e V1 ⟨rfl, hb1⟩
  have B1 := nby hb1
  have A1 := Lib.hid (row_call hb1 (heap_alloc_new _ _))
  clear hb1
  obtain ⟨A1_0, A1_1, A1_2, A1_3, A1_4, A1_5, A1_6, A1_7, A1_8, A1_9, A1_10, A1_11, A1_12⟩ := qw13 A1
  have zA1 := lt_of_heap A1.out
  go_simp
  go_wp2_with fail
  refine (HM.out _ (by first | exact kx_keep hM (B1.out) | exact kx_keep hM ((B1.out).alloc (B1.out.size) _) | exact kx_keep hM (((B1.out).alloc (B1.out.size) _).alloc (by have := B1.out.size; simp <;> omega) _) | exact kx_keep hM ((((B1.out).alloc (B1.out.size) _).alloc (by have := B1.out.size; simp <;> omega) _).alloc (by have := B1.out.size; simp <;> omega) _))).mono ?_
  rintro e V2 ⟨rfl, hb2⟩
  clear A1_0 A1_1 A1_2 A1_3 A1_4 A1_5 A1_6 A1_7 A1_8 A1_9 A1_10 A1_11 A1_12 zA1
  have B2 : Hid (Below w.heap.size w V2) := nbx B1 hb2
  replace A1 := rcx hb2 A1
  clear hb2
  obtain ⟨A1_0, A1_1, A1_2, A1_3, A1_4, A1_5, A1_6, A1_7, A1_8, A1_9, A1_10, A1_11, A1_12⟩ := qw13 A1
  have zA1 := lt_of_heap A1.out
  go_simp
  go_wp2_with fail
  refine (HD.out _ (by first | exact kx_keep hM (B2.out) | exact kx_keep hM ((B2.out).alloc (B2.out.size) _) | exact kx_keep hM (((B2.out).alloc (B2.out.size) _).alloc (by have := B2.out.size; simp <;> omega) _) | exact kx_keep hM ((((B2.out).alloc (B2.out.size) _).alloc (by have := B2.out.size; simp <;> omega) _).alloc (by have := B2.out.size; simp <;> omega) _))).mono ?_
  rintro e V3 ⟨rfl, hb3⟩
  clear A1_0 A1_1 A1_2 A1_3 A1_4 A1_5 A1_6 A1_7 A1_8 A1_9 A1_10 A1_11 A1_12 zA1
  have B3 : Hid (Below w.heap.size w V3) := nbx B2 hb3
  replace A1 := rcx hb3 A1
  clear hb3
  obtain ⟨A1_0, A1_1, A1_2, A1_3, A1_4, A1_5, A1_6, A1_7, A1_8, A1_9, A1_10, A1_11, A1_12⟩ := qw13 A1
  have zA1 := lt_of_heap A1.out
  go_simp
  go_wp2_with fail
  refine (HT.out _ (by first | exact kx_keep hM (B3.out) | exact kx_keep hM ((B3.out).alloc (B3.out.size) _) | exact kx_keep hM (((B3.out).alloc (B3.out.size) _).alloc (by have := B3.out.size; simp <;> omega) _) | exact kx_keep hM ((((B3.out).alloc (B3.out.size) _).alloc (by have := B3.out.size; simp <;> omega) _).alloc (by have := B3.out.size; simp <;> omega) _))).mono ?_
  rintro e V4 ⟨rfl, hb4⟩
  clear A1_0 A1_1 A1_2 A1_3 A1_4 A1_5 A1_6 A1_7 A1_8 A1_9 A1_10 A1_11 A1_12 zA1
  have B4 : Hid (Below w.heap.size w V4) := nbx B3 hb4
  replace A1 := rcx hb4 A1
  clear hb4
  obtain ⟨A1_0, A1_1, A1_2, A1_3, A1_4, A1_5, A1_6, A1_7, A1_8, A1_9, A1_10, A1_11, A1_12⟩ := qw13 A1
  have zA1 := lt_of_heap A1.out
  go_simp
  go_wp2
  go_ret
  exact ⟨rfl, B4.out⟩
set_option maxHeartbeats 1600000 in
set_option maxRecDepth 100000 in
theorem mnRu_5 (f t m dk dn dw ti rd off : Int) (dst : Bool) (S : ByteArray) (HY : Hid (∀ w, KX w → Calls Tryz.prog 116 #[.int .i64 f, .int .i64 t] w fun e w' => e = .returned (.bool true) ∧ Below w.heap.size w w')) (HM : Hid (∀ w, KX w → Calls Tryz.prog 117 #[.int .i64 m, .int .i64 1, .int .i64 12] w fun e w' => e = .returned (.bool true) ∧ Below w.heap.size w w')) (HD : Hid (∀ w, KX w → Calls Tryz.prog 118 #[.agg #[.int .i64 dk, .int .i64 dn, .int .i64 dw]] w fun e w' => e = .returned (.bool true) ∧ Below w.heap.size w w')) (HT : Hid (∀ w, KX w → Calls Tryz.prog 117 #[.int .i64 ti, .int .i64 0, .int .i64 86400] w fun e w' => e = .returned (.bool true) ∧ Below w.heap.size w w')) (HO : Hid (∀ w, KX w → Calls Tryz.prog 119 #[.int .i64 rd] w fun e w' => e = .returned (.bool false) ∧ Below w.heap.size w w')) (w : World) (hK : Hid (KX w)) :
    Calls Tryz.prog 90 #[.agg #[.int .i64 2, .int .i64 0, .int .i64 f, .int .i64 t, .int .i64 m, .int .i64 dk, .int .i64 dn, .int .i64 dw, .int .i64 ti, .int .i64 rd, .int .i64 off, .bool dst, .string S]] w fun e w' => e = .returned (.bool true) ∧ Below w.heap.size w w' := by
  go_enter Tryz.func90, Tryz.ntmps90
  have hM := hK
  go_wp2_with fail
  
  refine (HY.out _ (by first | exact kx_keep hM ((Below.refl w.heap.size w).alloc (Nat.le_refl _) _))).mono ?_
  rintro e V1 ⟨rfl, hb1⟩
  have B1 := nby hb1
  have A1 := Lib.hid (row_call hb1 (heap_alloc_new _ _))
  clear hb1
  obtain ⟨A1_0, A1_1, A1_2, A1_3, A1_4, A1_5, A1_6, A1_7, A1_8, A1_9, A1_10, A1_11, A1_12⟩ := qw13 A1
  have zA1 := lt_of_heap A1.out
  go_simp
  go_wp2_with fail
  refine (HM.out _ (by first | exact kx_keep hM (B1.out) | exact kx_keep hM ((B1.out).alloc (B1.out.size) _) | exact kx_keep hM (((B1.out).alloc (B1.out.size) _).alloc (by have := B1.out.size; simp <;> omega) _) | exact kx_keep hM ((((B1.out).alloc (B1.out.size) _).alloc (by have := B1.out.size; simp <;> omega) _).alloc (by have := B1.out.size; simp <;> omega) _))).mono ?_
  rintro e V2 ⟨rfl, hb2⟩
  clear A1_0 A1_1 A1_2 A1_3 A1_4 A1_5 A1_6 A1_7 A1_8 A1_9 A1_10 A1_11 A1_12 zA1
  have B2 : Hid (Below w.heap.size w V2) := nbx B1 hb2
  replace A1 := rcx hb2 A1
  clear hb2
  obtain ⟨A1_0, A1_1, A1_2, A1_3, A1_4, A1_5, A1_6, A1_7, A1_8, A1_9, A1_10, A1_11, A1_12⟩ := qw13 A1
  have zA1 := lt_of_heap A1.out
  go_simp
  go_wp2_with fail
  refine (HD.out _ (by first | exact kx_keep hM (B2.out) | exact kx_keep hM ((B2.out).alloc (B2.out.size) _) | exact kx_keep hM (((B2.out).alloc (B2.out.size) _).alloc (by have := B2.out.size; simp <;> omega) _) | exact kx_keep hM ((((B2.out).alloc (B2.out.size) _).alloc (by have := B2.out.size; simp <;> omega) _).alloc (by have := B2.out.size; simp <;> omega) _))).mono ?_
  rintro e V3 ⟨rfl, hb3⟩
  clear A1_0 A1_1 A1_2 A1_3 A1_4 A1_5 A1_6 A1_7 A1_8 A1_9 A1_10 A1_11 A1_12 zA1
  have B3 : Hid (Below w.heap.size w V3) := nbx B2 hb3
  replace A1 := rcx hb3 A1
  clear hb3
  obtain ⟨A1_0, A1_1, A1_2, A1_3, A1_4, A1_5, A1_6, A1_7, A1_8, A1_9, A1_10, A1_11, A1_12⟩ := qw13 A1
  have zA1 := lt_of_heap A1.out
  go_simp
  go_wp2_with fail
  refine (HT.out _ (by first | exact kx_keep hM (B3.out) | exact kx_keep hM ((B3.out).alloc (B3.out.size) _) | exact kx_keep hM (((B3.out).alloc (B3.out.size) _).alloc (by have := B3.out.size; simp <;> omega) _) | exact kx_keep hM ((((B3.out).alloc (B3.out.size) _).alloc (by have := B3.out.size; simp <;> omega) _).alloc (by have := B3.out.size; simp <;> omega) _))).mono ?_
  rintro e V4 ⟨rfl, hb4⟩
  clear A1_0 A1_1 A1_2 A1_3 A1_4 A1_5 A1_6 A1_7 A1_8 A1_9 A1_10 A1_11 A1_12 zA1
  have B4 : Hid (Below w.heap.size w V4) := nbx B3 hb4
  replace A1 := rcx hb4 A1
  clear hb4
  obtain ⟨A1_0, A1_1, A1_2, A1_3, A1_4, A1_5, A1_6, A1_7, A1_8, A1_9, A1_10, A1_11, A1_12⟩ := qw13 A1
  have zA1 := lt_of_heap A1.out
  go_simp
  go_wp2_with fail
  refine (HO.out _ (by first | exact kx_keep hM (B4.out) | exact kx_keep hM ((B4.out).alloc (B4.out.size) _) | exact kx_keep hM (((B4.out).alloc (B4.out.size) _).alloc (by have := B4.out.size; simp <;> omega) _) | exact kx_keep hM ((((B4.out).alloc (B4.out.size) _).alloc (by have := B4.out.size; simp <;> omega) _).alloc (by have := B4.out.size; simp <;> omega) _))).mono ?_
  rintro e V5 ⟨rfl, hb5⟩
  clear A1_0 A1_1 A1_2 A1_3 A1_4 A1_5 A1_6 A1_7 A1_8 A1_9 A1_10 A1_11 A1_12 zA1
  have B5 : Hid (Below w.heap.size w V5) := nbx B4 hb5
  replace A1 := rcx hb5 A1
  clear hb5
  obtain ⟨A1_0, A1_1, A1_2, A1_3, A1_4, A1_5, A1_6, A1_7, A1_8, A1_9, A1_10, A1_11, A1_12⟩ := qw13 A1
  have zA1 := lt_of_heap A1.out
  go_simp
  go_wp2
  go_ret
  exact ⟨rfl, B5.out⟩
set_option maxHeartbeats 1600000 in
set_option maxRecDepth 100000 in
theorem mnRu_6 (f t m dk dn dw ti rd off : Int) (dst : Bool) (S : ByteArray) (HY : Hid (∀ w, KX w → Calls Tryz.prog 116 #[.int .i64 f, .int .i64 t] w fun e w' => e = .returned (.bool true) ∧ Below w.heap.size w w')) (HM : Hid (∀ w, KX w → Calls Tryz.prog 117 #[.int .i64 m, .int .i64 1, .int .i64 12] w fun e w' => e = .returned (.bool true) ∧ Below w.heap.size w w')) (HD : Hid (∀ w, KX w → Calls Tryz.prog 118 #[.agg #[.int .i64 dk, .int .i64 dn, .int .i64 dw]] w fun e w' => e = .returned (.bool true) ∧ Below w.heap.size w w')) (HT : Hid (∀ w, KX w → Calls Tryz.prog 117 #[.int .i64 ti, .int .i64 0, .int .i64 86400] w fun e w' => e = .returned (.bool true) ∧ Below w.heap.size w w')) (HO : Hid (∀ w, KX w → Calls Tryz.prog 119 #[.int .i64 rd] w fun e w' => e = .returned (.bool true) ∧ Below w.heap.size w w')) (w : World) (hK : Hid (KX w)) :
    Calls Tryz.prog 90 #[.agg #[.int .i64 2, .int .i64 0, .int .i64 f, .int .i64 t, .int .i64 m, .int .i64 dk, .int .i64 dn, .int .i64 dw, .int .i64 ti, .int .i64 rd, .int .i64 off, .bool dst, .string S]] w fun e w' => e = .returned (.bool false) ∧ Below w.heap.size w w' := by
  go_enter Tryz.func90, Tryz.ntmps90
  have hM := hK
  go_wp2_with fail
  
  refine (HY.out _ (by first | exact kx_keep hM ((Below.refl w.heap.size w).alloc (Nat.le_refl _) _))).mono ?_
  rintro e V1 ⟨rfl, hb1⟩
  have B1 := nby hb1
  have A1 := Lib.hid (row_call hb1 (heap_alloc_new _ _))
  clear hb1
  obtain ⟨A1_0, A1_1, A1_2, A1_3, A1_4, A1_5, A1_6, A1_7, A1_8, A1_9, A1_10, A1_11, A1_12⟩ := qw13 A1
  have zA1 := lt_of_heap A1.out
  go_simp
  go_wp2_with fail
  refine (HM.out _ (by first | exact kx_keep hM (B1.out) | exact kx_keep hM ((B1.out).alloc (B1.out.size) _) | exact kx_keep hM (((B1.out).alloc (B1.out.size) _).alloc (by have := B1.out.size; simp <;> omega) _) | exact kx_keep hM ((((B1.out).alloc (B1.out.size) _).alloc (by have := B1.out.size; simp <;> omega) _).alloc (by have := B1.out.size; simp <;> omega) _))).mono ?_
  rintro e V2 ⟨rfl, hb2⟩
  clear A1_0 A1_1 A1_2 A1_3 A1_4 A1_5 A1_6 A1_7 A1_8 A1_9 A1_10 A1_11 A1_12 zA1
  have B2 : Hid (Below w.heap.size w V2) := nbx B1 hb2
  replace A1 := rcx hb2 A1
  clear hb2
  obtain ⟨A1_0, A1_1, A1_2, A1_3, A1_4, A1_5, A1_6, A1_7, A1_8, A1_9, A1_10, A1_11, A1_12⟩ := qw13 A1
  have zA1 := lt_of_heap A1.out
  go_simp
  go_wp2_with fail
  refine (HD.out _ (by first | exact kx_keep hM (B2.out) | exact kx_keep hM ((B2.out).alloc (B2.out.size) _) | exact kx_keep hM (((B2.out).alloc (B2.out.size) _).alloc (by have := B2.out.size; simp <;> omega) _) | exact kx_keep hM ((((B2.out).alloc (B2.out.size) _).alloc (by have := B2.out.size; simp <;> omega) _).alloc (by have := B2.out.size; simp <;> omega) _))).mono ?_
  rintro e V3 ⟨rfl, hb3⟩
  clear A1_0 A1_1 A1_2 A1_3 A1_4 A1_5 A1_6 A1_7 A1_8 A1_9 A1_10 A1_11 A1_12 zA1
  have B3 : Hid (Below w.heap.size w V3) := nbx B2 hb3
  replace A1 := rcx hb3 A1
  clear hb3
  obtain ⟨A1_0, A1_1, A1_2, A1_3, A1_4, A1_5, A1_6, A1_7, A1_8, A1_9, A1_10, A1_11, A1_12⟩ := qw13 A1
  have zA1 := lt_of_heap A1.out
  go_simp
  go_wp2_with fail
  refine (HT.out _ (by first | exact kx_keep hM (B3.out) | exact kx_keep hM ((B3.out).alloc (B3.out.size) _) | exact kx_keep hM (((B3.out).alloc (B3.out.size) _).alloc (by have := B3.out.size; simp <;> omega) _) | exact kx_keep hM ((((B3.out).alloc (B3.out.size) _).alloc (by have := B3.out.size; simp <;> omega) _).alloc (by have := B3.out.size; simp <;> omega) _))).mono ?_
  rintro e V4 ⟨rfl, hb4⟩
  clear A1_0 A1_1 A1_2 A1_3 A1_4 A1_5 A1_6 A1_7 A1_8 A1_9 A1_10 A1_11 A1_12 zA1
  have B4 : Hid (Below w.heap.size w V4) := nbx B3 hb4
  replace A1 := rcx hb4 A1
  clear hb4
  obtain ⟨A1_0, A1_1, A1_2, A1_3, A1_4, A1_5, A1_6, A1_7, A1_8, A1_9, A1_10, A1_11, A1_12⟩ := qw13 A1
  have zA1 := lt_of_heap A1.out
  go_simp
  go_wp2_with fail
  refine (HO.out _ (by first | exact kx_keep hM (B4.out) | exact kx_keep hM ((B4.out).alloc (B4.out.size) _) | exact kx_keep hM (((B4.out).alloc (B4.out.size) _).alloc (by have := B4.out.size; simp <;> omega) _) | exact kx_keep hM ((((B4.out).alloc (B4.out.size) _).alloc (by have := B4.out.size; simp <;> omega) _).alloc (by have := B4.out.size; simp <;> omega) _))).mono ?_
  rintro e V5 ⟨rfl, hb5⟩
  clear A1_0 A1_1 A1_2 A1_3 A1_4 A1_5 A1_6 A1_7 A1_8 A1_9 A1_10 A1_11 A1_12 zA1
  have B5 : Hid (Below w.heap.size w V5) := nbx B4 hb5
  replace A1 := rcx hb5 A1
  clear hb5
  obtain ⟨A1_0, A1_1, A1_2, A1_3, A1_4, A1_5, A1_6, A1_7, A1_8, A1_9, A1_10, A1_11, A1_12⟩ := qw13 A1
  have zA1 := lt_of_heap A1.out
  go_simp
  go_wp2
  go_ret
  exact ⟨rfl, B5.out⟩
end Go.Proofs.YtafecnlaodgmkaaGreatDoor
namespace Go.Proofs.YtafecnlaodgmkaaGreatDoor
set_option linter.unusedVariables false
set_option linter.unusedSimpArgs false
open Go.ChangeShapes Go.WideShapes Go.ChangeAt Go.RowKit
def AtOk (l : Lin) : Prop := l.f = 0 ∧ l.t = 0 ∧ l.m = 0 ∧ l.dk = 0 ∧ l.dn = 0 ∧ l.dw = 0 ∧ l.ti = 0 ∧ l.rd = 0
def RuOk (l : Lin) : Prop := l.s = 0 ∧ yeB l.f l.t = true ∧ (1 ≤ l.m ∧ l.m ≤ 12) ∧ mayD l.dk l.dn l.dw = true ∧ (0 ≤ l.ti ∧ l.ti ≤ 86400) ∧ (-64800 ≤ l.rd ∧ l.rd ≤ 64800)
def LineMay (l : Lin) : Prop := (l.k = 1 ∧ AtOk l) ∨ (l.k = 2 ∧ RuOk l)
noncomputable def notB (l : Lin) : Bool := @decide (¬ LineMay l) (Classical.propDecidable _)
theorem notB_yes {l : Lin} (h : ¬ LineMay l) : notB l = true := by unfold notB; exact @decide_eq_true _ (Classical.propDecidable _) h
theorem notB_no {l : Lin} (h : LineMay l) : notB l = false := by unfold notB; exact @decide_eq_false _ (Classical.propDecidable _) (fun e => e h)
theorem notB_iff (l : Lin) : notB l = false ↔ LineMay l := by
  constructor
  · intro h
    apply Classical.byContradiction
    intro q
    rw [notB_yes q] at h
    cases h
  · exact notB_no
set_option maxHeartbeats 3200000 in
set_option maxRecDepth 100000 in
theorem pMayNot_any (l : Lin) (n0 : -9223372036854775808 ≤ l.dn) (n1 : l.dn ≤ 9223372036854775807) (w : World) (hK : KX w) : Calls Tryz.prog 90 #[linA l] w fun e w' => e = .returned (.bool (notB l)) ∧ Below w.heap.size w w' := by
  obtain ⟨k, s, f, t, m, dk, dn, dw, ti, rd, off, dst, abb⟩ := l
  simp only at n0 n1
  by_cases h1 : k = 1
  · subst h1
    have no : ∀ (q : ¬ AtOk ⟨1, s, f, t, m, dk, dn, dw, ti, rd, off, dst, abb⟩), notB ⟨1, s, f, t, m, dk, dn, dw, ti, rd, off, dst, abb⟩ = true := fun q => notB_yes (fun e => by
      rcases e with ⟨_, e⟩ | ⟨e, _⟩
      · exact q e
      · have e' : (1 : Int) = 2 := e
        omega)
    by_cases hf : f = 0
    · subst hf
      by_cases ht : t = 0
      · subst ht
        by_cases hm : m = 0
        · subst hm
          by_cases hdk : dk = 0
          · subst hdk
            by_cases hdn : dn = 0
            · subst hdn
              by_cases hdw : dw = 0
              · subst hdw
                by_cases hti : ti = 0
                · subst hti
                  by_cases hrd : rd = 0
                  · subst hrd
                    rw [notB_no (Or.inl ⟨rfl, rfl, rfl, rfl, rfl, rfl, rfl, rfl, rfl⟩)]
                    exact mnAt_ok s off dst (bs abb) w
                  · rw [no (fun e => hrd e.2.2.2.2.2.2.2)]; exact mnAt_rd s rd off dst (bs abb) hrd w
                · rw [no (fun e => hti e.2.2.2.2.2.2.1)]; exact mnAt_ti s ti rd off dst (bs abb) hti w
              · rw [no (fun e => hdw e.2.2.2.2.2.1)]; exact mnAt_dw s dw ti rd off dst (bs abb) hdw w
            · rw [no (fun e => hdn e.2.2.2.2.1)]; exact mnAt_dn s dn dw ti rd off dst (bs abb) hdn w
          · rw [no (fun e => hdk e.2.2.2.1)]; exact mnAt_dk s dk dn dw ti rd off dst (bs abb) hdk w
        · rw [no (fun e => hm e.2.2.1)]; exact mnAt_m s m dk dn dw ti rd off dst (bs abb) hm w
      · rw [no (fun e => ht e.2.1)]; exact mnAt_t s t m dk dn dw ti rd off dst (bs abb) ht w
    · rw [no (fun e => hf e.1)]; exact mnAt_f s f t m dk dn dw ti rd off dst (bs abb) hf w
  by_cases h2 : k = 2
  · subst h2
    have no : ∀ (q : ¬ RuOk ⟨2, s, f, t, m, dk, dn, dw, ti, rd, off, dst, abb⟩), notB ⟨2, s, f, t, m, dk, dn, dw, ti, rd, off, dst, abb⟩ = true := fun q => notB_yes (fun e => by
      rcases e with ⟨e, _⟩ | ⟨_, e⟩
      · have e' : (2 : Int) = 1 := e
        omega
      · exact q e)
    have cy := fun w (hK : KX w) => grow3 (pYears15_p f t w)
    have cm := fun w (hK : KX w) => grow3 (pWithin15_p m 1 12 w)
    have cd := fun w (hK : KX w) => pTold_any dk dn dw n0 n1 w hK
    have ct := fun w (hK : KX w) => grow3 (pWithin15_p ti 0 86400 w)
    have co := fun w (hK : KX w) => grow3 (pIsOffset_p rd w)
    by_cases hs : s = 0
    · subst hs
      cases hy : yeB f t
      · rw [hy] at cy
        rw [no (fun e => by have h := e.2.1; simp only at h; rw [hy] at h; cases h)]
        exact mnRu_1 f t m dk dn dw ti rd off dst (bs abb) (Lib.hid cy) w (Lib.hid hK)
      rw [hy] at cy
      by_cases hm : 1 ≤ m ∧ m ≤ 12
      · rw [(inI_iff m 1 12).2 hm] at cm
        cases hd : mayD dk dn dw
        · rw [hd] at cd
          rw [no (fun e => by have h := e.2.2.2.1; simp only at h; rw [hd] at h; cases h)]
          exact mnRu_3 f t m dk dn dw ti rd off dst (bs abb) (Lib.hid cy) (Lib.hid cm) (Lib.hid cd) w (Lib.hid hK)
        rw [hd] at cd
        by_cases ht : 0 ≤ ti ∧ ti ≤ 86400
        · rw [(inI_iff ti 0 86400).2 ht] at ct
          by_cases hr : -64800 ≤ rd ∧ rd ≤ 64800
          · rw [(inI_iff rd (-64800) 64800).2 hr] at co
            rw [notB_no (Or.inr ⟨rfl, rfl, hy, hm, hd, ht, hr⟩)]
            exact mnRu_6 f t m dk dn dw ti rd off dst (bs abb) (Lib.hid cy) (Lib.hid cm) (Lib.hid cd) (Lib.hid ct) (Lib.hid co) w (Lib.hid hK)
          · rw [inI_no hr] at co
            rw [no (fun e => hr e.2.2.2.2.2)]
            exact mnRu_5 f t m dk dn dw ti rd off dst (bs abb) (Lib.hid cy) (Lib.hid cm) (Lib.hid cd) (Lib.hid ct) (Lib.hid co) w (Lib.hid hK)
        · rw [inI_no ht] at ct
          rw [no (fun e => ht e.2.2.2.2.1)]
          exact mnRu_4 f t m dk dn dw ti rd off dst (bs abb) (Lib.hid cy) (Lib.hid cm) (Lib.hid cd) (Lib.hid ct) w (Lib.hid hK)
      · rw [inI_no hm] at cm
        rw [no (fun e => hm e.2.2.1)]
        exact mnRu_2 f t m dk dn dw ti rd off dst (bs abb) (Lib.hid cy) (Lib.hid cm) w (Lib.hid hK)
    · rw [no (fun e => hs e.1)]
      exact mnRu_0 s f t m dk dn dw ti rd off dst (bs abb) hs w (Lib.hid hK)
  · rw [notB_yes (fun e => by rcases e with ⟨e, _⟩ | ⟨e, _⟩; exact h1 e; exact h2 e)]
    exact mnKind k s f t m dk dn dw ti rd off dst (bs abb) h1 h2 w
def badAb (t : List UInt8) : Bool := abbE t != 0
set_option maxHeartbeats 1600000 in
set_option maxRecDepth 100000 in
theorem pMisspelt_any (off : Int) (dst : Bool) (abb : List UInt8) (hL : abb.length ≤ 9223372036854775807) (w : World) : Calls Tryz.prog 87 #[.agg #[.int .i64 off, .bool dst, .string (bs abb)]] w fun e w' => e = .returned (.bool (badAb abb)) ∧ Below w.heap.size w w' := by
  have H := Lib.hid (pAbbr_all abb hL)
  have E : Hid (badAb abb = (abbE abb != 0)) := Lib.hid rfl
  generalize abbE abb = a at *
  go_enter Tryz.func87, Tryz.ntmps87
  go_wp2_with fail
  
  refine (H.out _).mono ?_
  rintro e V1 ⟨rfl, hb1⟩
  have B1 := nby hb1
  have A1 := Lib.hid (row_call hb1 (heap_alloc_new _ _))
  clear hb1
  obtain ⟨A1_0, A1_1, A1_2⟩ := qw3 A1
  have zA1 := lt_of_heap A1.out
  go_simp
  go_wp2
  go_ret
  exact ⟨by rw [E.out]; try rfl, B1.out⟩
set_option maxHeartbeats 1600000 in
set_option maxRecDepth 100000 in
theorem pMisspeltLine_any (l : Lin) (hL : l.abb.length ≤ 9223372036854775807) (w : World) : Calls Tryz.prog 89 #[linA l] w fun e w' => e = .returned (.bool (badAb l.abb)) ∧ Below w.heap.size w w' := by
  have H := Lib.hid (pMisspelt_any l.off l.dst l.abb hL)
  generalize badAb l.abb = B at *
  obtain ⟨k, s, f, t, m, dk, dn, dw, ti, rd, off, dst, abb⟩ := l
  simp only at H
  unfold linA
  go_enter Tryz.func89, Tryz.ntmps89
  go_wp2_with fail
  
  refine (H.out _).mono ?_
  rintro e V1 ⟨rfl, hb1⟩
  have B1 := nby hb1
  have A1 := Lib.hid (row_call hb1 (heap_alloc_new _ _))
  clear hb1
  obtain ⟨A1_0, A1_1, A1_2, A1_3, A1_4, A1_5, A1_6, A1_7, A1_8, A1_9, A1_10, A1_11, A1_12⟩ := qw13 A1
  have zA1 := lt_of_heap A1.out
  go_simp
  go_wp2
  go_ret
  exact ⟨rfl, B1.out⟩
set_option maxHeartbeats 1600000 in
set_option maxRecDepth 100000 in
theorem pFar_any (off : Int) (dst : Bool) (S : ByteArray) (w : World) : Calls Tryz.prog 91 #[.agg #[.int .i64 off, .bool dst, .string S]] w fun e w' => e = .returned (.bool (!inI off (-64800) 64800)) ∧ Below w.heap.size w w' := by
  have H := Lib.hid (fun w => grow3 (pIsOffset_p off w))
  generalize inI off (-64800) 64800 = b at *
  go_enter Tryz.func91, Tryz.ntmps91
  go_wp2_with fail
  
  refine (H.out _).mono ?_
  rintro e V1 ⟨rfl, hb1⟩
  have B1 := nby hb1
  have A1 := Lib.hid (row_call hb1 (heap_alloc_new _ _))
  clear hb1
  obtain ⟨A1_0, A1_1, A1_2⟩ := qw3 A1
  have zA1 := lt_of_heap A1.out
  go_simp
  go_wp2
  go_ret
  exact ⟨rfl, B1.out⟩
def farB (l : Lin) : Bool := !inI l.off (-64800) 64800 || !inI l.s (-377705116800) 253402300799
set_option maxHeartbeats 1600000 in
set_option maxRecDepth 100000 in
theorem pFarLine_any (l : Lin) (w : World) : Calls Tryz.prog 92 #[linA l] w fun e w' => e = .returned (.bool (farB l)) ∧ Below w.heap.size w w' := by
  have H := Lib.hid (pFar_any l.off l.dst (bs l.abb))
  have H2 := Lib.hid (fun w => grow3 (pWithin15_p l.s (-377705116800) 253402300799 w))
  have E : Hid (farB l = (!inI l.off (-64800) 64800 || !inI l.s (-377705116800) 253402300799)) := Lib.hid rfl
  generalize farB l = B at *
  generalize inI l.off (-64800) 64800 = b at *
  generalize inI l.s (-377705116800) 253402300799 = c at *
  obtain ⟨k, s, f, t, m, dk, dn, dw, ti, rd, off, dst, abb⟩ := l
  simp only at H H2
  unfold linA
  cases b
  · go_enter Tryz.func92, Tryz.ntmps92
    go_wp2_with fail
    
    refine (H.out _).mono ?_
    rintro e V1 ⟨rfl, hb1⟩
    have B1 := nby hb1
    have A1 := Lib.hid (row_call hb1 (heap_alloc_new _ _))
    clear hb1
    obtain ⟨A1_0, A1_1, A1_2, A1_3, A1_4, A1_5, A1_6, A1_7, A1_8, A1_9, A1_10, A1_11, A1_12⟩ := qw13 A1
    have zA1 := lt_of_heap A1.out
    go_simp
    go_wp2
    go_ret
    exact ⟨by rw [E.out]; try rfl, B1.out⟩
  · go_enter Tryz.func92, Tryz.ntmps92
    go_wp2_with fail
    
    refine (H.out _).mono ?_
    rintro e V1 ⟨rfl, hb1⟩
    have B1 := nby hb1
    have A1 := Lib.hid (row_call hb1 (heap_alloc_new _ _))
    clear hb1
    obtain ⟨A1_0, A1_1, A1_2, A1_3, A1_4, A1_5, A1_6, A1_7, A1_8, A1_9, A1_10, A1_11, A1_12⟩ := qw13 A1
    have zA1 := lt_of_heap A1.out
    go_simp
    go_wp2_with fail
    refine (H2.out _).mono ?_
    rintro e V2 ⟨rfl, hb2⟩
    clear A1_0 A1_1 A1_2 A1_3 A1_4 A1_5 A1_6 A1_7 A1_8 A1_9 A1_10 A1_11 A1_12 zA1
    have B2 : Hid (Below w.heap.size w V2) := nbx B1 hb2
    replace A1 := rcx hb2 A1
    clear hb2
    obtain ⟨A1_0, A1_1, A1_2, A1_3, A1_4, A1_5, A1_6, A1_7, A1_8, A1_9, A1_10, A1_11, A1_12⟩ := qw13 A1
    have zA1 := lt_of_heap A1.out
    go_simp
    go_wp2
    go_ret
    exact ⟨by rw [E.out]; try rfl, B2.out⟩
set_option maxHeartbeats 3200000 in
set_option maxRecDepth 100000 in
theorem pIndex_ms (p : Lin → Bool) (T : List Lin) (hH : ∀ l ∈ T, ∀ w, KX w → Calls Tryz.prog 89 #[linA l] w fun e w' => e = .returned (.bool (p l)) ∧ Below w.heap.size w w') (hl : T.length ≤ 9223372036854775807) (A : Option Addr) (c : Nat) (w : World) (hK : KX w) (hR : Rd w A (linVs T)) :
    Calls Tryz.prog 115 #[.slice A T.length c, .func (.func 89) #[] #[]] w fun e w' => (∃ i : Int, e = .returned (.int .i64 i) ∧ (0 ≤ i ↔ T.any p = true)) ∧ Below w.heap.size w w' := by
  have HA := Lib.hid hR
  have HK := Lib.hid hK
  have HH := Lib.hid hH
  clear hR hK hH
  go_enter Tryz.func115, Tryz.ntmps115
  go_wp2
  go_loopw [8] (fun i wr => ∃ k : Nat, k ≤ T.length ∧ i = .int .i64 (k : Int) ∧ Hid (∀ j (h : j < T.length), j < k → p T[j] = false) ∧ Below w.heap.size w wr) (fun i _ => T.length - (intOf i).toNat)
  case atStart => exact ⟨0, by omega, rfl, Lib.hid (fun j _ h => by omega), Below.refl _ _⟩
  case round =>
    obtain ⟨k, hk, rfl, hno, hB1⟩ := hrel
    obtain ⟨V20, rfl⟩ : ∃ V, V = wr := ⟨_, rfl⟩
    have hR := HA.out.below hB1 (Nat.le_refl _)
    have B20 := Lib.hid hB1
    clear hB1
    by_cases hlt : k < T.length
    · obtain ⟨b, o, rfl, hb, hc⟩ := hR.lin hlt
      obtain ⟨a0, a1, a2, a3, a4, a5, a6, a7, a8, a9, a10, a11, a12⟩ := hc k hlt
      have HC := Lib.hid (HH.out T[k] (by simp) V20 (kx_keep HK B20.out))
      have hyes : Hid (p T[k] = true → T.any p = true) := Lib.hid (fun h => List.any_eq_true.2 ⟨T[k], by simp, h⟩)
      have hno2 : Hid (p T[k] = false → ∀ j (h : j < T.length), j < k + 1 → p T[j] = false) := Lib.hid (fun e j h hj => by
        by_cases hjk : j = k
        · subst hjk; exact e
        · exact hno.out j h (by omega))
      clear hc hR HH
      obtain ⟨l, hTk⟩ : ∃ l, T[k] = l := ⟨_, rfl⟩
      rw [hTk] at a0 a1 a2 a3 a4 a5 a6 a7 a8 a9 a10 a11 a12 HC hyes hno2
      replace hTk := Lib.hid hTk
      obtain ⟨l0, l1, l2, l3, l4, l5, l6, l7, l8, l9, l10, l11, l12⟩ := l
      simp only at a0 a1 a2 a3 a4 a5 a6 a7 a8 a9 a10 a11 a12
      unfold linA at HC
      have hwk : IntKind.i64.wrap ((k : Int) + 1) = (k : Int) + 1 := wrap_small _ (by omega) (by omega)
      generalize hp : p _ = pb at HC hyes hno2
      
      cases pb
      · go_wp2_with fail
        refine HC.out.mono ?_
        rintro e w5 ⟨rfl, hb5⟩
        have B5 := Lib.hid (B20.out.trans (hb5.mono B20.out.size))
        have hno3 := Lib.hid (hno2.out (by first | trivial | rfl))
        clear hb5 HC hno hno2 hyes
        go_wp2
        go_roundw
        case rel => exact ⟨k + 1, by omega, by go_num, Lib.hid (fun j h hj => hno3.out j (by omega) hj), B5.out⟩
        case measure => simp [intOf]; omega
      · go_wp2_with fail
        refine HC.out.mono ?_
        rintro e w5 ⟨rfl, hb5⟩
        have B5 := Lib.hid (B20.out.trans (hb5.mono B20.out.size))
        clear hb5 HC hno hno2
        go_wp2
        go_ret
        exact ⟨⟨(k : Int), rfl, fun _ => hyes.out (by first | trivial | rfl), fun _ => by omega⟩, B5.out⟩
    · obtain rfl : k = T.length := by omega
      have hany : Hid (T.any p = false) := Lib.hid (by
        rw [List.any_eq_false]
        intro x hx
        obtain ⟨j, hj, rfl⟩ := List.mem_iff_getElem.1 hx
        rw [hno.out j hj hj]
        decide)
      clear hR
      
      go_wp2
      go_ret
      exact ⟨⟨-1, rfl, fun h => absurd h (by decide), fun h => by rw [hany.out] at h; cases h⟩, B20.out⟩
set_option maxHeartbeats 1600000 in
set_option maxRecDepth 100000 in
theorem pContains_ms (p : Lin → Bool) (T : List Lin) (hH : ∀ l ∈ T, ∀ w, KX w → Calls Tryz.prog 89 #[linA l] w fun e w' => e = .returned (.bool (p l)) ∧ Below w.heap.size w w') (hl : T.length ≤ 9223372036854775807) (A : Option Addr) (c : Nat) (w : World) (hK : KX w) (hR : Rd w A (linVs T)) :
    Calls Tryz.prog 88 #[.slice A T.length c, .func (.func 89) #[] #[]] w fun e w' => e = .returned (.bool (T.any p)) ∧ Below w.heap.size w w' := by
  have H := Lib.hid (pIndex_ms p T hH hl A c w hK hR)
  clear hH
  generalize T.length = N at *
  generalize T.any p = B at *
  go_enter Tryz.func88, Tryz.ntmps88
  go_wp2_with fail
  refine H.out.mono ?_
  rintro e w1 ⟨⟨i, rfl, hi⟩, hb⟩
  replace hb := Lib.hid hb
  have hE : Hid (decide (0 ≤ i) = B) := Lib.hid (by
    cases B
    · exact decide_eq_false (fun h => by have := hi.1 h; cases this)
    · exact decide_eq_true (hi.2 rfl))
  clear hi
  go_wp2
  go_ret
  exact ⟨by rw [← hE.out]; try rfl, hb.out⟩
set_option maxHeartbeats 3200000 in
set_option maxRecDepth 100000 in
theorem pIndex_mn (p : Lin → Bool) (T : List Lin) (hH : ∀ l ∈ T, ∀ w, KX w → Calls Tryz.prog 90 #[linA l] w fun e w' => e = .returned (.bool (p l)) ∧ Below w.heap.size w w') (hl : T.length ≤ 9223372036854775807) (A : Option Addr) (c : Nat) (w : World) (hK : KX w) (hR : Rd w A (linVs T)) :
    Calls Tryz.prog 115 #[.slice A T.length c, .func (.func 90) #[] #[]] w fun e w' => (∃ i : Int, e = .returned (.int .i64 i) ∧ (0 ≤ i ↔ T.any p = true)) ∧ Below w.heap.size w w' := by
  have HA := Lib.hid hR
  have HK := Lib.hid hK
  have HH := Lib.hid hH
  clear hR hK hH
  go_enter Tryz.func115, Tryz.ntmps115
  go_wp2
  go_loopw [8] (fun i wr => ∃ k : Nat, k ≤ T.length ∧ i = .int .i64 (k : Int) ∧ Hid (∀ j (h : j < T.length), j < k → p T[j] = false) ∧ Below w.heap.size w wr) (fun i _ => T.length - (intOf i).toNat)
  case atStart => exact ⟨0, by omega, rfl, Lib.hid (fun j _ h => by omega), Below.refl _ _⟩
  case round =>
    obtain ⟨k, hk, rfl, hno, hB1⟩ := hrel
    obtain ⟨V20, rfl⟩ : ∃ V, V = wr := ⟨_, rfl⟩
    have hR := HA.out.below hB1 (Nat.le_refl _)
    have B20 := Lib.hid hB1
    clear hB1
    by_cases hlt : k < T.length
    · obtain ⟨b, o, rfl, hb, hc⟩ := hR.lin hlt
      obtain ⟨a0, a1, a2, a3, a4, a5, a6, a7, a8, a9, a10, a11, a12⟩ := hc k hlt
      have HC := Lib.hid (HH.out T[k] (by simp) V20 (kx_keep HK B20.out))
      have hyes : Hid (p T[k] = true → T.any p = true) := Lib.hid (fun h => List.any_eq_true.2 ⟨T[k], by simp, h⟩)
      have hno2 : Hid (p T[k] = false → ∀ j (h : j < T.length), j < k + 1 → p T[j] = false) := Lib.hid (fun e j h hj => by
        by_cases hjk : j = k
        · subst hjk; exact e
        · exact hno.out j h (by omega))
      clear hc hR HH
      obtain ⟨l, hTk⟩ : ∃ l, T[k] = l := ⟨_, rfl⟩
      rw [hTk] at a0 a1 a2 a3 a4 a5 a6 a7 a8 a9 a10 a11 a12 HC hyes hno2
      replace hTk := Lib.hid hTk
      obtain ⟨l0, l1, l2, l3, l4, l5, l6, l7, l8, l9, l10, l11, l12⟩ := l
      simp only at a0 a1 a2 a3 a4 a5 a6 a7 a8 a9 a10 a11 a12
      unfold linA at HC
      have hwk : IntKind.i64.wrap ((k : Int) + 1) = (k : Int) + 1 := wrap_small _ (by omega) (by omega)
      generalize hp : p _ = pb at HC hyes hno2
      
      cases pb
      · go_wp2_with fail
        refine HC.out.mono ?_
        rintro e w5 ⟨rfl, hb5⟩
        have B5 := Lib.hid (B20.out.trans (hb5.mono B20.out.size))
        have hno3 := Lib.hid (hno2.out (by first | trivial | rfl))
        clear hb5 HC hno hno2 hyes
        go_wp2
        go_roundw
        case rel => exact ⟨k + 1, by omega, by go_num, Lib.hid (fun j h hj => hno3.out j (by omega) hj), B5.out⟩
        case measure => simp [intOf]; omega
      · go_wp2_with fail
        refine HC.out.mono ?_
        rintro e w5 ⟨rfl, hb5⟩
        have B5 := Lib.hid (B20.out.trans (hb5.mono B20.out.size))
        clear hb5 HC hno hno2
        go_wp2
        go_ret
        exact ⟨⟨(k : Int), rfl, fun _ => hyes.out (by first | trivial | rfl), fun _ => by omega⟩, B5.out⟩
    · obtain rfl : k = T.length := by omega
      have hany : Hid (T.any p = false) := Lib.hid (by
        rw [List.any_eq_false]
        intro x hx
        obtain ⟨j, hj, rfl⟩ := List.mem_iff_getElem.1 hx
        rw [hno.out j hj hj]
        decide)
      clear hR
      
      go_wp2
      go_ret
      exact ⟨⟨-1, rfl, fun h => absurd h (by decide), fun h => by rw [hany.out] at h; cases h⟩, B20.out⟩
set_option maxHeartbeats 1600000 in
set_option maxRecDepth 100000 in
theorem pContains_mn (p : Lin → Bool) (T : List Lin) (hH : ∀ l ∈ T, ∀ w, KX w → Calls Tryz.prog 90 #[linA l] w fun e w' => e = .returned (.bool (p l)) ∧ Below w.heap.size w w') (hl : T.length ≤ 9223372036854775807) (A : Option Addr) (c : Nat) (w : World) (hK : KX w) (hR : Rd w A (linVs T)) :
    Calls Tryz.prog 88 #[.slice A T.length c, .func (.func 90) #[] #[]] w fun e w' => e = .returned (.bool (T.any p)) ∧ Below w.heap.size w w' := by
  have H := Lib.hid (pIndex_mn p T hH hl A c w hK hR)
  clear hH
  generalize T.length = N at *
  generalize T.any p = B at *
  go_enter Tryz.func88, Tryz.ntmps88
  go_wp2_with fail
  refine H.out.mono ?_
  rintro e w1 ⟨⟨i, rfl, hi⟩, hb⟩
  replace hb := Lib.hid hb
  have hE : Hid (decide (0 ≤ i) = B) := Lib.hid (by
    cases B
    · exact decide_eq_false (fun h => by have := hi.1 h; cases this)
    · exact decide_eq_true (hi.2 rfl))
  clear hi
  go_wp2
  go_ret
  exact ⟨by rw [← hE.out]; try rfl, hb.out⟩
set_option maxHeartbeats 3200000 in
set_option maxRecDepth 100000 in
theorem pIndex_fl (p : Lin → Bool) (T : List Lin) (hH : ∀ l ∈ T, ∀ w, KX w → Calls Tryz.prog 92 #[linA l] w fun e w' => e = .returned (.bool (p l)) ∧ Below w.heap.size w w') (hl : T.length ≤ 9223372036854775807) (A : Option Addr) (c : Nat) (w : World) (hK : KX w) (hR : Rd w A (linVs T)) :
    Calls Tryz.prog 115 #[.slice A T.length c, .func (.func 92) #[] #[]] w fun e w' => (∃ i : Int, e = .returned (.int .i64 i) ∧ (0 ≤ i ↔ T.any p = true)) ∧ Below w.heap.size w w' := by
  have HA := Lib.hid hR
  have HK := Lib.hid hK
  have HH := Lib.hid hH
  clear hR hK hH
  go_enter Tryz.func115, Tryz.ntmps115
  go_wp2
  go_loopw [8] (fun i wr => ∃ k : Nat, k ≤ T.length ∧ i = .int .i64 (k : Int) ∧ Hid (∀ j (h : j < T.length), j < k → p T[j] = false) ∧ Below w.heap.size w wr) (fun i _ => T.length - (intOf i).toNat)
  case atStart => exact ⟨0, by omega, rfl, Lib.hid (fun j _ h => by omega), Below.refl _ _⟩
  case round =>
    obtain ⟨k, hk, rfl, hno, hB1⟩ := hrel
    obtain ⟨V20, rfl⟩ : ∃ V, V = wr := ⟨_, rfl⟩
    have hR := HA.out.below hB1 (Nat.le_refl _)
    have B20 := Lib.hid hB1
    clear hB1
    by_cases hlt : k < T.length
    · obtain ⟨b, o, rfl, hb, hc⟩ := hR.lin hlt
      obtain ⟨a0, a1, a2, a3, a4, a5, a6, a7, a8, a9, a10, a11, a12⟩ := hc k hlt
      have HC := Lib.hid (HH.out T[k] (by simp) V20 (kx_keep HK B20.out))
      have hyes : Hid (p T[k] = true → T.any p = true) := Lib.hid (fun h => List.any_eq_true.2 ⟨T[k], by simp, h⟩)
      have hno2 : Hid (p T[k] = false → ∀ j (h : j < T.length), j < k + 1 → p T[j] = false) := Lib.hid (fun e j h hj => by
        by_cases hjk : j = k
        · subst hjk; exact e
        · exact hno.out j h (by omega))
      clear hc hR HH
      obtain ⟨l, hTk⟩ : ∃ l, T[k] = l := ⟨_, rfl⟩
      rw [hTk] at a0 a1 a2 a3 a4 a5 a6 a7 a8 a9 a10 a11 a12 HC hyes hno2
      replace hTk := Lib.hid hTk
      obtain ⟨l0, l1, l2, l3, l4, l5, l6, l7, l8, l9, l10, l11, l12⟩ := l
      simp only at a0 a1 a2 a3 a4 a5 a6 a7 a8 a9 a10 a11 a12
      unfold linA at HC
      have hwk : IntKind.i64.wrap ((k : Int) + 1) = (k : Int) + 1 := wrap_small _ (by omega) (by omega)
      generalize hp : p _ = pb at HC hyes hno2
      
      cases pb
      · go_wp2_with fail
        refine HC.out.mono ?_
        rintro e w5 ⟨rfl, hb5⟩
        have B5 := Lib.hid (B20.out.trans (hb5.mono B20.out.size))
        have hno3 := Lib.hid (hno2.out (by first | trivial | rfl))
        clear hb5 HC hno hno2 hyes
        go_wp2
        go_roundw
        case rel => exact ⟨k + 1, by omega, by go_num, Lib.hid (fun j h hj => hno3.out j (by omega) hj), B5.out⟩
        case measure => simp [intOf]; omega
      · go_wp2_with fail
        refine HC.out.mono ?_
        rintro e w5 ⟨rfl, hb5⟩
        have B5 := Lib.hid (B20.out.trans (hb5.mono B20.out.size))
        clear hb5 HC hno hno2
        go_wp2
        go_ret
        exact ⟨⟨(k : Int), rfl, fun _ => hyes.out (by first | trivial | rfl), fun _ => by omega⟩, B5.out⟩
    · obtain rfl : k = T.length := by omega
      have hany : Hid (T.any p = false) := Lib.hid (by
        rw [List.any_eq_false]
        intro x hx
        obtain ⟨j, hj, rfl⟩ := List.mem_iff_getElem.1 hx
        rw [hno.out j hj hj]
        decide)
      clear hR
      
      go_wp2
      go_ret
      exact ⟨⟨-1, rfl, fun h => absurd h (by decide), fun h => by rw [hany.out] at h; cases h⟩, B20.out⟩
set_option maxHeartbeats 1600000 in
set_option maxRecDepth 100000 in
theorem pContains_fl (p : Lin → Bool) (T : List Lin) (hH : ∀ l ∈ T, ∀ w, KX w → Calls Tryz.prog 92 #[linA l] w fun e w' => e = .returned (.bool (p l)) ∧ Below w.heap.size w w') (hl : T.length ≤ 9223372036854775807) (A : Option Addr) (c : Nat) (w : World) (hK : KX w) (hR : Rd w A (linVs T)) :
    Calls Tryz.prog 88 #[.slice A T.length c, .func (.func 92) #[] #[]] w fun e w' => e = .returned (.bool (T.any p)) ∧ Below w.heap.size w w' := by
  have H := Lib.hid (pIndex_fl p T hH hl A c w hK hR)
  clear hH
  generalize T.length = N at *
  generalize T.any p = B at *
  go_enter Tryz.func88, Tryz.ntmps88
  go_wp2_with fail
  refine H.out.mono ?_
  rintro e w1 ⟨⟨i, rfl, hi⟩, hb⟩
  replace hb := Lib.hid hb
  have hE : Hid (decide (0 ≤ i) = B) := Lib.hid (by
    cases B
    · exact decide_eq_false (fun h => by have := hi.1 h; cases this)
    · exact decide_eq_true (hi.2 rfl))
  clear hi
  go_wp2
  go_ret
  exact ⟨by rw [← hE.out]; try rfl, hb.out⟩
noncomputable def ckU (z : Src) : Int :=
  if 16 < z.lns.length ∨ 4 < tailP z.lns then 1 else if namE z.nam ≠ 0 ∨ badAb z.abb = true ∨ z.lns.any (fun l => badAb l.abb) = true then 2
  else if z.dst = true ∨ z.lns.any notB = true then 5 else if (!inI z.off (-64800) 64800) = true ∨ z.lns.any farB = true then 8 else 0
theorem badAb_iff (t : List UInt8) : badAb t = false ↔ abbE t = 0 := by unfold badAb; simp
theorem farB_iff (l : Lin) : farB l = false ↔ ((-64800 ≤ l.off ∧ l.off ≤ 64800) ∧ (-377705116800 ≤ l.s ∧ l.s ≤ 253402300799)) := by
  unfold farB
  rw [Bool.or_eq_false_iff, Bool.not_eq_false', Bool.not_eq_false', inI_iff, inI_iff]
theorem okL_iff (l : Lin) : OkL l ↔ (LineMay l ∧ badAb l.abb = false ∧ farB l = false) := by
  rw [badAb_iff, farB_iff]
  unfold OkL OkT LineMay AtOk RuOk
  rw [yeB_iff]
  constructor
  · rintro ⟨h | h, o1, o2, o3⟩
    · obtain ⟨a, b, c, d, e, f, g, i, j, k, m⟩ := h
      exact ⟨Or.inl ⟨a, b, c, d, e, f, g, i, j⟩, o3, ⟨o1, o2⟩, k, m⟩
    · obtain ⟨a, b, c, c', d, e, e', f, g, g', i, i'⟩ := h
      exact ⟨Or.inr ⟨a, b, ⟨⟨c, c'⟩, d⟩, ⟨e, e'⟩, f, ⟨g, g'⟩, i, i'⟩, o3, ⟨o1, o2⟩, by omega, by omega⟩
  · rintro ⟨h | h, o3, ⟨o1, o2⟩, k, m⟩
    · obtain ⟨a, b, c, d, e, f, g, i, j⟩ := h
      exact ⟨Or.inl ⟨a, b, c, d, e, f, g, i, j, k, m⟩, o1, o2, o3⟩
    · obtain ⟨a, b, ⟨⟨c, c'⟩, d⟩, ⟨e, e'⟩, f, ⟨g, g'⟩, i, i'⟩ := h
      exact ⟨Or.inr ⟨a, b, c, c', d, e, e', f, g, g', i, i'⟩, o1, o2, o3⟩
theorem any_no {p : Lin → Bool} {T : List Lin} : T.any p = false ↔ ∀ l ∈ T, p l = false := by
  rw [List.any_eq_false]
  constructor
  · intro h l hl
    have := h l hl
    simpa using this
  · intro h l hl
    rw [h l hl]
    decide
theorem ckU_zero (z : Src) : ckU z = 0 ↔ OkS z := by
  have key : (¬ (namE z.nam ≠ 0 ∨ badAb z.abb = true ∨ z.lns.any (fun l => badAb l.abb) = true) ∧ ¬ (z.dst = true ∨ z.lns.any notB = true) ∧ ¬ ((!inI z.off (-64800) 64800) = true ∨ z.lns.any farB = true)) ↔ (namE z.nam = 0 ∧ OkT z.off z.abb ∧ z.dst = false ∧ ∀ l ∈ z.lns, OkL l) := by
    unfold OkT
    constructor
    · rintro ⟨h1, h2, h3⟩
      have a1 : z.lns.any (fun l => badAb l.abb) = false := by rw [Bool.eq_false_iff]; exact fun e => h1 (Or.inr (Or.inr e))
      have a2 : z.lns.any notB = false := by rw [Bool.eq_false_iff]; exact fun e => h2 (Or.inr e)
      have a3 : z.lns.any farB = false := by rw [Bool.eq_false_iff]; exact fun e => h3 (Or.inr e)
      have b1 : badAb z.abb = false := by rw [Bool.eq_false_iff]; exact fun e => h1 (Or.inr (Or.inl e))
      have b2 : inI z.off (-64800) 64800 = true := by
        cases q : inI z.off (-64800) 64800
        · exact absurd (Or.inl (by rw [q]; rfl)) h3
        · rfl
      rw [inI_iff] at b2
      refine ⟨Classical.byContradiction fun e => h1 (Or.inl e), ⟨b2.1, b2.2, (badAb_iff _).1 b1⟩, by rw [Bool.eq_false_iff]; exact fun e => h2 (Or.inl e), fun l hl => (okL_iff l).2 ⟨(notB_iff l).1 (any_no.1 a2 l hl), any_no.1 a1 l hl, any_no.1 a3 l hl⟩⟩
    · rintro ⟨h1, ⟨o1, o2, o3⟩, h3, h4⟩
      have a1 : z.lns.any (fun l => badAb l.abb) = false := any_no.2 fun l hl => ((okL_iff l).1 (h4 l hl)).2.1
      have a2 : z.lns.any notB = false := any_no.2 fun l hl => (notB_iff l).2 ((okL_iff l).1 (h4 l hl)).1
      have a3 : z.lns.any farB = false := any_no.2 fun l hl => ((okL_iff l).1 (h4 l hl)).2.2
      have b1 : badAb z.abb = false := (badAb_iff _).2 o3
      have b2 : inI z.off (-64800) 64800 = true := (inI_iff _ _ _).2 ⟨o1, o2⟩
      refine ⟨?_, ?_, ?_⟩
      · rw [a1, b1]
        rintro (e | e | e)
        · exact e h1
        · cases e
        · cases e
      · rw [a2, h3]
        rintro (e | e) <;> cases e
      · rw [a3, b2]
        rintro (e | e) <;> cases e
  unfold ckU
  constructor
  · intro h
    split at h
    · exact absurd h (by decide)
    · rename_i h0
      split at h
      · exact absurd h (by decide)
      · rename_i h1
        split at h
        · exact absurd h (by decide)
        · rename_i h2
          split at h
          · exact absurd h (by decide)
          · rename_i h3
            obtain ⟨a, b, c, d⟩ := key.1 ⟨h1, h2, h3⟩
            have := tail_eq d
            exact ⟨by omega, by omega, a, b, c, d⟩
  · rintro ⟨a, b, c, d, e, f⟩
    obtain ⟨h1, h2, h3⟩ := key.2 ⟨c, d, e, f⟩
    have := tail_eq f
    rw [if_neg (by omega), if_neg h1, if_neg h2, if_neg h3]
end Go.Proofs.YtafecnlaodgmkaaGreatDoor
