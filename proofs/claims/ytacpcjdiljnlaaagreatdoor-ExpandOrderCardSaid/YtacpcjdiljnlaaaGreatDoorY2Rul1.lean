/- Several texts in one: RulA, RulB, RulC, RulE, RulF, RulG, RulI, RulM, RulK, RulR, RulT. -/
import Derived.Test.YtacpcjdiljnlaaaGreatDoorY2Sm
import Derived.Test.YtacpcjdiljnlaaaGreatDoorY2RowS1
import Derived.Test.YtacpcjdiljnlaaaGreatDoorY2Yr1
import Derived.Test.YtacpcjdiljnlaaaGreatDoorY2Inst1
import Derived.Test.YtacpcjdiljnlaaaGreatDoorY2Ct1
import Derived.Test.YtacpcjdiljnlaaaGreatDoorY2Lex1
import Derived.Test.YtacpcjdiljnlaaaGreatDoorY2Wrd1
import Derived.Test.YtacpcjdiljnlaaaGreatDoorY2Wrd2
import Derived.Test.YtacpcjdiljnlaaaGreatDoorY2OwnA1
namespace Go.Proofs.YtacpcjdiljnlaaaGreatDoor
set_option linter.unusedVariables false
set_option linter.unusedSimpArgs false
open Go.ChangeShapes Go.WideShapes Go.ChangeAt Go.RowKit
theorem grow_of2 {P : Program} {f : Nat} {args : Array Value} {w : World} {r : Ending} (h : Calls P f args w fun e w' => e = r ∧ w = w') : Calls P f args w fun e w' => e = r ∧ Below w.heap.size w w' := h.mono fun e w' ⟨a, b⟩ => ⟨a, b ▸ Below.refl _ _⟩
theorem bs_empty : bs [] = ⟨#[]⟩ := by unfold bs; rfl
def moS (k : Int) : List UInt8 :=
  if k = 1 then [106, 97, 110] else if k = 2 then [102, 101, 98] else if k = 3 then [109, 97, 114] else if k = 4 then [97, 112, 114] else if k = 5 then [109, 97, 121] else if k = 6 then [106, 117, 110] else if k = 7 then [106, 117, 108] else if k = 8 then [97, 117, 103] else if k = 9 then [115, 101, 112] else if k = 10 then [111, 99, 116] else if k = 11 then [110, 111, 118] else if k = 12 then [100, 101, 99] else []
@[irreducible] def monI (t : List UInt8) : Int :=
  if t = moS 1 then 1 else if t = moS 2 then 2 else if t = moS 3 then 3 else if t = moS 4 then 4 else if t = moS 5 then 5 else if t = moS 6 then 6 else if t = moS 7 then 7 else if t = moS 8 then 8 else if t = moS 9 then 9 else if t = moS 10 then 10 else if t = moS 11 then 11 else if t = moS 12 then 12 else 0
theorem mon_cases (k : Int) (h1 : 1 ≤ k) (h2 : k ≤ 12) : k = 1 ∨ k = 2 ∨ k = 3 ∨ k = 4 ∨ k = 5 ∨ k = 6 ∨ k = 7 ∨ k = 8 ∨ k = 9 ∨ k = 10 ∨ k = 11 ∨ k = 12 := by omega
theorem mon_moS (k : Int) (h1 : 1 ≤ k) (h2 : k ≤ 12) : monI (moS k) = k := by
  rcases mon_cases k h1 h2 with rfl | rfl | rfl | rfl | rfl | rfl | rfl | rfl | rfl | rfl | rfl | rfl <;> (unfold monI; rfl)
theorem mon_none {t : List UInt8} (h : ∀ j : Nat, 1 ≤ j → j ≤ 12 → t ≠ moS (j : Int)) : monI t = 0 := by
  unfold monI
  rw [if_neg (show ¬ t = moS 1 from h 1 (by decide) (by decide)), if_neg (show ¬ t = moS 2 from h 2 (by decide) (by decide)), if_neg (show ¬ t = moS 3 from h 3 (by decide) (by decide)), if_neg (show ¬ t = moS 4 from h 4 (by decide) (by decide)), if_neg (show ¬ t = moS 5 from h 5 (by decide) (by decide)), if_neg (show ¬ t = moS 6 from h 6 (by decide) (by decide)), if_neg (show ¬ t = moS 7 from h 7 (by decide) (by decide)), if_neg (show ¬ t = moS 8 from h 8 (by decide) (by decide)), if_neg (show ¬ t = moS 9 from h 9 (by decide) (by decide)), if_neg (show ¬ t = moS 10 from h 10 (by decide) (by decide)), if_neg (show ¬ t = moS 11 from h 11 (by decide) (by decide)), if_neg (show ¬ t = moS 12 from h 12 (by decide) (by decide))]
theorem mon_some {t : List UInt8} (h : monI t ≠ 0) : t = moS (monI t) ∧ 1 ≤ monI t ∧ monI t ≤ 12 := by
  by_cases h1 : t = moS 1
  · subst h1; rw [mon_moS _ (by decide) (by decide)]; exact ⟨rfl, by decide, by decide⟩
  by_cases h2 : t = moS 2
  · subst h2; rw [mon_moS _ (by decide) (by decide)]; exact ⟨rfl, by decide, by decide⟩
  by_cases h3 : t = moS 3
  · subst h3; rw [mon_moS _ (by decide) (by decide)]; exact ⟨rfl, by decide, by decide⟩
  by_cases h4 : t = moS 4
  · subst h4; rw [mon_moS _ (by decide) (by decide)]; exact ⟨rfl, by decide, by decide⟩
  by_cases h5 : t = moS 5
  · subst h5; rw [mon_moS _ (by decide) (by decide)]; exact ⟨rfl, by decide, by decide⟩
  by_cases h6 : t = moS 6
  · subst h6; rw [mon_moS _ (by decide) (by decide)]; exact ⟨rfl, by decide, by decide⟩
  by_cases h7 : t = moS 7
  · subst h7; rw [mon_moS _ (by decide) (by decide)]; exact ⟨rfl, by decide, by decide⟩
  by_cases h8 : t = moS 8
  · subst h8; rw [mon_moS _ (by decide) (by decide)]; exact ⟨rfl, by decide, by decide⟩
  by_cases h9 : t = moS 9
  · subst h9; rw [mon_moS _ (by decide) (by decide)]; exact ⟨rfl, by decide, by decide⟩
  by_cases h10 : t = moS 10
  · subst h10; rw [mon_moS _ (by decide) (by decide)]; exact ⟨rfl, by decide, by decide⟩
  by_cases h11 : t = moS 11
  · subst h11; rw [mon_moS _ (by decide) (by decide)]; exact ⟨rfl, by decide, by decide⟩
  by_cases h12 : t = moS 12
  · subst h12; rw [mon_moS _ (by decide) (by decide)]; exact ⟨rfl, by decide, by decide⟩
  refine absurd (mon_none fun j j1 j2 => ?_) h
  rcases (by omega : j = 1 ∨ j = 2 ∨ j = 3 ∨ j = 4 ∨ j = 5 ∨ j = 6 ∨ j = 7 ∨ j = 8 ∨ j = 9 ∨ j = 10 ∨ j = 11 ∨ j = 12) with rfl | rfl | rfl | rfl | rfl | rfl | rfl | rfl | rfl | rfl | rfl | rfl
  · exact h1
  · exact h2
  · exact h3
  · exact h4
  · exact h5
  · exact h6
  · exact h7
  · exact h8
  · exact h9
  · exact h10
  · exact h11
  · exact h12
set_option maxHeartbeats 1600000 in
set_option maxRecDepth 100000 in
theorem rMonth_any (k : Int) (h1 : 1 ≤ k) (h7 : k ≤ 12) (w : World) : Calls Tryz.prog 151 #[.int .i64 k] w fun e w' => e = .returned (.string (bs (moS k))) ∧ Below w.heap.size w w' := by
  rcases mon_cases k h1 h7 with rfl | rfl | rfl | rfl | rfl | rfl | rfl | rfl | rfl | rfl | rfl | rfl
  all_goals
    clear h1 h7
    go_enter Tryz.func151, Tryz.ntmps151
    go_wp2
    go_ret
    exact ⟨congrArg (fun x => Ending.returned (Value.string x)) (bs_lit _ _ rfl), (Below.refl _ _).alloc (Nat.le_refl _) _⟩
set_option maxHeartbeats 3200000 in
set_option maxRecDepth 100000 in
theorem rMonthOf_any (t : List UInt8) (w : World) : Calls Tryz.prog 127 #[.string (bs t)] w fun e w' => e = .returned (.int .i64 (monI t)) ∧ Below w.heap.size w w' := by
  have HM := Lib.hid rMonth_any
  have lt := bs_list t
  go_enter Tryz.func127, Tryz.ntmps127
  go_wp2
  go_loopw [3] (fun i wr => ∃ k : Nat, 1 ≤ k ∧ k ≤ 13 ∧ i = .int .i64 (k : Int) ∧ (∀ j : Nat, 1 ≤ j → j < k → t ≠ moS (j : Int)) ∧ Below w.heap.size w wr) (fun i _ => 13 - (intOf i).toNat)
  case atStart => exact ⟨1, by omega, by omega, rfl, fun j h1 h2 => absurd h1 (by omega), Below.refl _ _⟩
  case round =>
    obtain ⟨k, hk1, hk8, rfl, hno, hB⟩ := hrel
    obtain ⟨V20, rfl⟩ : ∃ V, V = wr := ⟨_, rfl⟩
    have B20 := Lib.hid hB
    clear hB
    by_cases hlt : k < 13
    · have X5 := HM.out (k : Int) (by omega) (by omega)
      have lk := bs_list (moS (k : Int))
      by_cases hT2 : t = moS (k : Int)
      · have t1 : (moS (k : Int) == t) = true := by rw [← hT2]; simp
        have E : Hid (monI t = (k : Int)) := Lib.hid (by rw [hT2]; exact mon_moS _ (by omega) (by omega))
        replace hT2 := Lib.hid hT2
        replace hno := Lib.hid hno
        generalize moS (k : Int) = K at *
        have H5 := Lib.hid X5
        clear X5 HM
        
        go_wp2_with fail
        refine (H5.out _).mono ?_
        rintro e V21 ⟨rfl, hb21⟩
        have B21 : Hid (Below w.heap.size w V21) := nbx B20 hb21
        clear hb21
        go_simp
        go_wp2
        go_ret
        exact ⟨by rw [E.out]; try rfl, B21.out⟩
      · have t1 : (moS (k : Int) == t) = false := beq_eq_false_iff_ne.2 (fun e => hT2 e.symm)
        have hno2 : Hid (∀ j : Nat, 1 ≤ j → j < k + 1 → t ≠ moS (j : Int)) := Lib.hid (fun j h1 h2 => by
          by_cases e : j = k
          · subst e; exact hT2
          · exact hno j h1 (by omega))
        replace hT2 := Lib.hid hT2
        replace hno := Lib.hid hno
        generalize moS (k : Int) = K at *
        have H5 := Lib.hid X5
        clear X5 HM
        
        go_wp2_with fail
        refine (H5.out _).mono ?_
        rintro e V21 ⟨rfl, hb21⟩
        have B21 : Hid (Below w.heap.size w V21) := nbx B20 hb21
        clear hb21
        go_simp
        go_wp2
        exact ⟨⟨k + 1, by omega, by omega, by go_num, hno2.out, B21.out⟩, by simp [intOf]; omega⟩
    · obtain rfl : k = 13 := by omega
      have E : Hid (monI t = 0) := Lib.hid (mon_none (fun j h1 h2 => hno j h1 (by omega)))
      replace hno := Lib.hid hno
      clear HM
      go_wp2
      go_ret
      exact ⟨by rw [E.out]; try rfl, B20.out⟩
def onlyL : List UInt8 := [111, 110, 108, 121]
def onL : List UInt8 := [111, 110]
@[irreducible] def yrsR (a b : List UInt8) : Int × Int × Int :=
  if numE a (-9999) 9999 ≠ 0 then (0, 0, numE a (-9999) 9999)
  else if b = onlyL then (numV a (-9999) 9999, numV a (-9999) 9999, 0)
  else if b = onL then (numV a (-9999) 9999, 1048576, 0)
  else (numV a (-9999) 9999, numV b (-9999) 9999, numE b (-9999) 9999)
set_option maxHeartbeats 3200000 in
set_option maxRecDepth 100000 in
theorem rYears_any (a b : List UInt8) (ha : a.length ≤ 100000) (hb : b.length ≤ 100000) (w : World) : Calls Tryz.prog 126 #[.string (bs a), .string (bs b)] w fun e w' => e = .returned (.tuple #[.int .i64 (yrsR a b).1, .int .i64 (yrsR a b).2.1, .int .i64 (yrsR a b).2.2]) ∧ w = w' := by
  have X1 := rYear_any a ha
  have X2 := rYear_any b hb
  have lb := bs_list b
  by_cases h0 : numE a (-9999) 9999 = 0
  · rw [h0] at X1
    have H1 := Lib.hid X1
    clear X1
    by_cases h1 : b = onlyL
    · have E : Hid (yrsR a b = (numV a (-9999) 9999, numV a (-9999) 9999, 0)) := Lib.hid (by unfold yrsR; rw [if_neg (by rw [h0]; decide)]; exact if_pos h1)
      have q1 : (b == [111, 110, 108, 121]) = true := by rw [h1]; rfl
      replace h0 := Lib.hid h0
      replace h1 := Lib.hid h1
      clear X2
      generalize numV a (-9999) 9999 = A at *
      go_enter Tryz.func126, Tryz.ntmps126
      go_wp2_with fail
      refine (H1.out _).mono ?_
      rintro e w1 ⟨rfl, rfl⟩
      go_wp2
      refine bodyPost_ret (v := .tuple #[.int .i64 A, .int .i64 A, .int .i64 0]) (by simp [results, Tryz.results126, go_sem]) rfl ⟨by rw [E.out], rfl⟩
    · have q1 : (b == [111, 110, 108, 121]) = false := beq_eq_false_iff_ne.2 h1
      by_cases h2 : b = onL
      · have E : Hid (yrsR a b = (numV a (-9999) 9999, 1048576, 0)) := Lib.hid (by unfold yrsR; rw [if_neg (by rw [h0]; decide), if_neg h1]; exact if_pos h2)
        have q2 : (b == [111, 110]) = true := by rw [h2]; rfl
        replace h0 := Lib.hid h0
        replace h1 := Lib.hid h1
        replace h2 := Lib.hid h2
        clear X2
        generalize numV a (-9999) 9999 = A at *
        go_enter Tryz.func126, Tryz.ntmps126
        go_wp2_with fail
        refine (H1.out _).mono ?_
        rintro e w1 ⟨rfl, rfl⟩
        go_wp2
        refine bodyPost_ret (v := .tuple #[.int .i64 A, .int .i64 1048576, .int .i64 0]) (by simp [results, Tryz.results126, go_sem]) rfl ⟨by rw [E.out], rfl⟩
      · have E : Hid (yrsR a b = (numV a (-9999) 9999, numV b (-9999) 9999, numE b (-9999) 9999)) := Lib.hid (by unfold yrsR; rw [if_neg (by rw [h0]; decide), if_neg h1]; exact if_neg h2)
        have q2 : (b == [111, 110]) = false := beq_eq_false_iff_ne.2 h2
        replace h0 := Lib.hid h0
        replace h1 := Lib.hid h1
        replace h2 := Lib.hid h2
        have H2 := Lib.hid X2
        clear X2
        generalize numV a (-9999) 9999 = A at *
        generalize numV b (-9999) 9999 = B at *
        generalize numE b (-9999) 9999 = C at *
        go_enter Tryz.func126, Tryz.ntmps126
        go_wp2_with fail
        refine (H1.out _).mono ?_
        rintro e w1 ⟨rfl, rfl⟩
        go_wp2_with fail
        refine (H2.out _).mono ?_
        rintro e w1 ⟨rfl, rfl⟩
        go_wp2
        refine bodyPost_ret (v := .tuple #[.int .i64 A, .int .i64 B, .int .i64 C]) (by simp [results, Tryz.results126, go_sem]) rfl ⟨by rw [E.out], rfl⟩
  · have E : Hid (yrsR a b = (0, 0, numE a (-9999) 9999)) := Lib.hid (by unfold yrsR; exact if_pos h0)
    have f1 : (numE a (-9999) 9999 != 0) = true := bne_iff_ne.2 h0
    have H1 := Lib.hid X1
    replace h0 := Lib.hid h0
    clear X1 X2
    generalize numV a (-9999) 9999 = A at *
    generalize numE a (-9999) 9999 = C at *
    go_enter Tryz.func126, Tryz.ntmps126
    go_wp2_with fail
    refine (H1.out _).mono ?_
    rintro e w1 ⟨rfl, rfl⟩
    go_wp2
    refine bodyPost_ret (v := .tuple #[.int .i64 0, .int .i64 0, .int .i64 C]) (by simp [results, Tryz.results126, go_sem]) rfl ⟨by rw [E.out], rfl⟩
end Go.Proofs.YtacpcjdiljnlaaaGreatDoor
namespace Go.Proofs.YtacpcjdiljnlaaaGreatDoor
set_option linter.unusedVariables false
set_option linter.unusedSimpArgs false
open Go.ChangeShapes Go.WideShapes Go.ChangeAt Go.RowKit
theorem Rd.wrd {w : World} {A : Option Addr} {ws : List (List UInt8)} (h : Rd w A (ws.map strV)) {k : Nat} (hk : k < ws.length) :
    ∃ b o, A = some ⟨b, o, none⟩ ∧ b < w.heap.size ∧ ∀ j (hj : j < ws.length), w.cell? ⟨b, o + j, none⟩ = some (.string (bs ws[j])) := by
  obtain ⟨b, o, hA, hb, hc⟩ := h k (strV ws[k]) (by simp [hk])
  refine ⟨b, o, hA, hb, fun j hj => ?_⟩
  exact h.at_ hA (by simp [hj, strV])
def stdL : List UInt8 := [115, 116, 100]
def dstL : List UInt8 := [100, 115, 116]
@[irreducible] def triR (x y z : List UInt8) : Int × Bool × List UInt8 × Int :=
  if offE x ≠ 0 then (0, false, [], offE x) else if y ≠ stdL ∧ y ≠ dstL then (0, false, [], 2) else if abbE z ≠ 0 then (0, false, [], abbE z) else (offV x, y == dstL, z, 0)
theorem tri_off {x y z : List UInt8} (h : offE x ≠ 0) : triR x y z = (0, false, [], offE x) := by unfold triR; exact if_pos h
theorem tri_odd {x y z : List UInt8} (h : ¬ offE x ≠ 0) (h2 : y ≠ stdL ∧ y ≠ dstL) : triR x y z = (0, false, [], 2) := by unfold triR; rw [if_neg h]; exact if_pos h2
theorem tri_abb {x y z : List UInt8} (h : ¬ offE x ≠ 0) (h2 : ¬ (y ≠ stdL ∧ y ≠ dstL)) (h3 : abbE z ≠ 0) : triR x y z = (0, false, [], abbE z) := by unfold triR; rw [if_neg h, if_neg h2]; exact if_pos h3
theorem tri_ok {x y z : List UInt8} (h : ¬ offE x ≠ 0) (h2 : ¬ (y ≠ stdL ∧ y ≠ dstL)) (h3 : ¬ abbE z ≠ 0) : triR x y z = (offV x, y == dstL, z, 0) := by unfold triR; rw [if_neg h, if_neg h2]; exact if_neg h3
set_option maxHeartbeats 6400000 in
set_option maxRecDepth 100000 in
theorem rTriple_any (x y z : List UInt8) (hx : x.length ≤ 100000) (hz : z.length ≤ 100000) (A : Option Addr) (n c : Nat) (w : World) (b o : Nat) (hA : A = some ⟨b, o, none⟩) (hn : 3 ≤ n) (hb : b < w.heap.size)
    (c0 : w.cell? ⟨b, o, none⟩ = some (.string (bs x))) (c1 : w.cell? ⟨b, o + 1, none⟩ = some (.string (bs y))) (c2 : w.cell? ⟨b, o + 2, none⟩ = some (.string (bs z))) :
    Calls Tryz.prog 125 #[.slice A n c] w fun e w' => e = .returned (.tuple #[.agg #[.int .i64 (triR x y z).1, .bool (triR x y z).2.1, .string (bs (triR x y z).2.2.1)], .int .i64 (triR x y z).2.2.2]) ∧ Below w.heap.size w w' := by
  subst hA
  have X1 := fun w => grow_of2 (rOffset_any x hx w)
  have X2 := fun w => grow_of2 (rAbbr_any z hz w)
  have ly := bs_list y
  have hb0 : bs [] = ⟨#[]⟩ := bs_empty
  by_cases h1 : offE x = 0
  · have hE0 : ¬ offE x ≠ 0 := fun h => h h1
    rw [h1] at X1
    have H1 := Lib.hid X1
    clear X1
    have m0 : ¬ (⟨b, o + 1, none⟩ : Addr).block = w.heap.size := by show ¬ b = w.heap.size; omega
    by_cases h2 : y ≠ stdL ∧ y ≠ dstL
    · have E := Lib.hid (tri_odd (z := z) hE0 h2)
      have q1 : (y == [115, 116, 100]) = false := beq_eq_false_iff_ne.2 h2.1
      have q2 : (y == [100, 115, 116]) = false := beq_eq_false_iff_ne.2 h2.2
      replace h1 := Lib.hid h1
      replace h2 := Lib.hid h2
      replace hE0 := Lib.hid hE0
      clear X2
      generalize offV x = ov at *
      go_enter Tryz.func125, Tryz.ntmps125
      refine wp_shut ?_
      go_wp2_with fail
      
      refine (H1.out _).mono ?_
      rintro e V1 ⟨rfl, hb1⟩
      have B1 := nby hb1
      have Z1 := Lib.hid (row_call hb1 (heap_alloc_new _ _))
      clear hb1
      obtain ⟨Z1_0, Z1_1, Z1_2⟩ := qw3 Z1
      have Z1_f0 : V1.frozen? ⟨w.heap.size, 0, none⟩ = false := by simp [World.frozen?, Z1.out]
      have Z1_f1 : V1.frozen? ⟨w.heap.size, 1, none⟩ = false := by simp [World.frozen?, Z1.out]
      have Z1_f2 : V1.frozen? ⟨w.heap.size, 2, none⟩ = false := by simp [World.frozen?, Z1.out]
      have zZ1 := lt_of_heap Z1.out
      have k1 : V1.cell? ⟨b, o + 1, none⟩ = some (.string (bs y)) := (B1.out.cell (p := ⟨b, o + 1, none⟩) hb).trans c1
      have k2 : V1.cell? ⟨b, o + 2, none⟩ = some (.string (bs z)) := (B1.out.cell (p := ⟨b, o + 2, none⟩) hb).trans c2
      go_simp
      go_wp2
      refine shut_ret (v := .tuple #[.agg #[.int .i64 0, .bool false, .string ⟨#[]⟩], .int .i64 2]) (by simp [results, Tryz.results125, go_sem, zZ1, Z1_0, Z1_1, Z1_2]) rfl ⟨by rw [E.out, hb0], ?_⟩
      exact keep3 B1.out (Nat.le_refl _) _ _ _
    · by_cases h3 : abbE z = 0
      · have hy2 : y = stdL ∨ y = dstL := by
          by_cases e1 : y = stdL
          · exact Or.inl e1
          · by_cases e2 : y = dstL
            · exact Or.inr e2
            · exact absurd ⟨e1, e2⟩ h2
        rcases hy2 with hy | hy
        · have q1 : (y == [115, 116, 100]) = true := by rw [hy]; rfl
          have q2 : (y == [100, 115, 116]) = false := by rw [hy]; rfl
          have q3 : (y == dstL) = false := q2
          have E := Lib.hid (tri_ok hE0 h2 (fun h => h h3))
          rw [h3] at X2
          rw [q3] at E
          have H2 := Lib.hid X2
          clear X2 q3
          replace h1 := Lib.hid h1
          replace h2 := Lib.hid h2
          replace h3 := Lib.hid h3
          replace hy := Lib.hid hy
          replace hE0 := Lib.hid hE0
          generalize offV x = ov at *
          go_enter Tryz.func125, Tryz.ntmps125
          refine wp_shut ?_
          go_wp2_with fail
          
          refine (H1.out _).mono ?_
          rintro e V1 ⟨rfl, hb1⟩
          have B1 := nby hb1
          have Z1 := Lib.hid (row_call hb1 (heap_alloc_new _ _))
          clear hb1
          obtain ⟨Z1_0, Z1_1, Z1_2⟩ := qw3 Z1
          have Z1_f0 : V1.frozen? ⟨w.heap.size, 0, none⟩ = false := by simp [World.frozen?, Z1.out]
          have Z1_f1 : V1.frozen? ⟨w.heap.size, 1, none⟩ = false := by simp [World.frozen?, Z1.out]
          have Z1_f2 : V1.frozen? ⟨w.heap.size, 2, none⟩ = false := by simp [World.frozen?, Z1.out]
          have zZ1 := lt_of_heap Z1.out
          have k1 : V1.cell? ⟨b, o + 1, none⟩ = some (.string (bs y)) := (B1.out.cell (p := ⟨b, o + 1, none⟩) hb).trans c1
          have k2 : V1.cell? ⟨b, o + 2, none⟩ = some (.string (bs z)) := (B1.out.cell (p := ⟨b, o + 2, none⟩) hb).trans c2
          go_simp
          go_wp2_with fail
          refine (H2.out _).mono ?_
          rintro e V2 ⟨rfl, hb2⟩
          clear Z1_0 Z1_1 Z1_2 Z1_f0 Z1_f1 Z1_f2 zZ1
          have B2 : Hid (Below w.heap.size w V2) := nbx B1 hb2
          replace Z1 := rcx hb2 Z1
          clear hb2
          obtain ⟨Z1_0, Z1_1, Z1_2⟩ := qw3 Z1
          have Z1_f0 : V2.frozen? ⟨w.heap.size, 0, none⟩ = false := by simp [World.frozen?, Z1.out]
          have Z1_f1 : V2.frozen? ⟨w.heap.size, 1, none⟩ = false := by simp [World.frozen?, Z1.out]
          have Z1_f2 : V2.frozen? ⟨w.heap.size, 2, none⟩ = false := by simp [World.frozen?, Z1.out]
          have zZ1 := lt_of_heap Z1.out
          have k3 : V2.cell? ⟨b, o + 1, none⟩ = some (.string (bs y)) := (B2.out.cell (p := ⟨b, o + 1, none⟩) hb).trans c1
          have k4 : V2.cell? ⟨b, o + 2, none⟩ = some (.string (bs z)) := (B2.out.cell (p := ⟨b, o + 2, none⟩) hb).trans c2
          go_simp
          go_wp2_with fail
          go_region
          go_wp2
          refine shut_ret (v := .tuple #[.agg #[.int .i64 ov, .bool false, .string (bs z)], .int .i64 0]) (by simp [results, Tryz.results125, go_sem, zZ1, Z1_0, Z1_1, Z1_2]) rfl ⟨by rw [E.out], ?_⟩
          first | exact keep3 B2.out.drew (Nat.le_refl _) _ _ _ | exact (keep3 B2.out (Nat.le_refl _) _ _ _).drew
        · have q1 : (y == [115, 116, 100]) = false := by rw [hy]; rfl
          have q2 : (y == [100, 115, 116]) = true := by rw [hy]; rfl
          have q3 : (y == dstL) = true := q2
          have E := Lib.hid (tri_ok hE0 h2 (fun h => h h3))
          rw [h3] at X2
          rw [q3] at E
          have H2 := Lib.hid X2
          clear X2 q3
          replace h1 := Lib.hid h1
          replace h2 := Lib.hid h2
          replace h3 := Lib.hid h3
          replace hy := Lib.hid hy
          replace hE0 := Lib.hid hE0
          generalize offV x = ov at *
          go_enter Tryz.func125, Tryz.ntmps125
          refine wp_shut ?_
          go_wp2_with fail
          
          refine (H1.out _).mono ?_
          rintro e V1 ⟨rfl, hb1⟩
          have B1 := nby hb1
          have Z1 := Lib.hid (row_call hb1 (heap_alloc_new _ _))
          clear hb1
          obtain ⟨Z1_0, Z1_1, Z1_2⟩ := qw3 Z1
          have Z1_f0 : V1.frozen? ⟨w.heap.size, 0, none⟩ = false := by simp [World.frozen?, Z1.out]
          have Z1_f1 : V1.frozen? ⟨w.heap.size, 1, none⟩ = false := by simp [World.frozen?, Z1.out]
          have Z1_f2 : V1.frozen? ⟨w.heap.size, 2, none⟩ = false := by simp [World.frozen?, Z1.out]
          have zZ1 := lt_of_heap Z1.out
          have k1 : V1.cell? ⟨b, o + 1, none⟩ = some (.string (bs y)) := (B1.out.cell (p := ⟨b, o + 1, none⟩) hb).trans c1
          have k2 : V1.cell? ⟨b, o + 2, none⟩ = some (.string (bs z)) := (B1.out.cell (p := ⟨b, o + 2, none⟩) hb).trans c2
          go_simp
          go_wp2_with fail
          refine (H2.out _).mono ?_
          rintro e V2 ⟨rfl, hb2⟩
          clear Z1_0 Z1_1 Z1_2 Z1_f0 Z1_f1 Z1_f2 zZ1
          have B2 : Hid (Below w.heap.size w V2) := nbx B1 hb2
          replace Z1 := rcx hb2 Z1
          clear hb2
          obtain ⟨Z1_0, Z1_1, Z1_2⟩ := qw3 Z1
          have Z1_f0 : V2.frozen? ⟨w.heap.size, 0, none⟩ = false := by simp [World.frozen?, Z1.out]
          have Z1_f1 : V2.frozen? ⟨w.heap.size, 1, none⟩ = false := by simp [World.frozen?, Z1.out]
          have Z1_f2 : V2.frozen? ⟨w.heap.size, 2, none⟩ = false := by simp [World.frozen?, Z1.out]
          have zZ1 := lt_of_heap Z1.out
          have k3 : V2.cell? ⟨b, o + 1, none⟩ = some (.string (bs y)) := (B2.out.cell (p := ⟨b, o + 1, none⟩) hb).trans c1
          have k4 : V2.cell? ⟨b, o + 2, none⟩ = some (.string (bs z)) := (B2.out.cell (p := ⟨b, o + 2, none⟩) hb).trans c2
          go_simp
          go_wp2_with fail
          go_region
          go_wp2
          refine shut_ret (v := .tuple #[.agg #[.int .i64 ov, .bool true, .string (bs z)], .int .i64 0]) (by simp [results, Tryz.results125, go_sem, zZ1, Z1_0, Z1_1, Z1_2]) rfl ⟨by rw [E.out], ?_⟩
          first | exact keep3 B2.out.drew (Nat.le_refl _) _ _ _ | exact (keep3 B2.out (Nat.le_refl _) _ _ _).drew
      · have hy2 : y = stdL ∨ y = dstL := by
          by_cases e1 : y = stdL
          · exact Or.inl e1
          · by_cases e2 : y = dstL
            · exact Or.inr e2
            · exact absurd ⟨e1, e2⟩ h2
        rcases hy2 with hy | hy
        · have q1 : (y == [115, 116, 100]) = true := by rw [hy]; rfl
          have q2 : (y == [100, 115, 116]) = false := by rw [hy]; rfl
          have q3 : (y == dstL) = false := q2
          have E := Lib.hid (tri_abb hE0 h2 h3)
          have f2 : (abbE z != 0) = true := bne_iff_ne.2 h3
          have H2 := Lib.hid X2
          clear X2 q3
          replace h1 := Lib.hid h1
          replace h2 := Lib.hid h2
          replace h3 := Lib.hid h3
          replace hy := Lib.hid hy
          replace hE0 := Lib.hid hE0
          generalize offV x = ov at *
          generalize abbE z = ae at *
          go_enter Tryz.func125, Tryz.ntmps125
          refine wp_shut ?_
          go_wp2_with fail
          
          refine (H1.out _).mono ?_
          rintro e V1 ⟨rfl, hb1⟩
          have B1 := nby hb1
          have Z1 := Lib.hid (row_call hb1 (heap_alloc_new _ _))
          clear hb1
          obtain ⟨Z1_0, Z1_1, Z1_2⟩ := qw3 Z1
          have Z1_f0 : V1.frozen? ⟨w.heap.size, 0, none⟩ = false := by simp [World.frozen?, Z1.out]
          have Z1_f1 : V1.frozen? ⟨w.heap.size, 1, none⟩ = false := by simp [World.frozen?, Z1.out]
          have Z1_f2 : V1.frozen? ⟨w.heap.size, 2, none⟩ = false := by simp [World.frozen?, Z1.out]
          have zZ1 := lt_of_heap Z1.out
          have k1 : V1.cell? ⟨b, o + 1, none⟩ = some (.string (bs y)) := (B1.out.cell (p := ⟨b, o + 1, none⟩) hb).trans c1
          have k2 : V1.cell? ⟨b, o + 2, none⟩ = some (.string (bs z)) := (B1.out.cell (p := ⟨b, o + 2, none⟩) hb).trans c2
          go_simp
          go_wp2_with fail
          refine (H2.out _).mono ?_
          rintro e V2 ⟨rfl, hb2⟩
          clear Z1_0 Z1_1 Z1_2 Z1_f0 Z1_f1 Z1_f2 zZ1
          have B2 : Hid (Below w.heap.size w V2) := nbx B1 hb2
          replace Z1 := rcx hb2 Z1
          clear hb2
          obtain ⟨Z1_0, Z1_1, Z1_2⟩ := qw3 Z1
          have Z1_f0 : V2.frozen? ⟨w.heap.size, 0, none⟩ = false := by simp [World.frozen?, Z1.out]
          have Z1_f1 : V2.frozen? ⟨w.heap.size, 1, none⟩ = false := by simp [World.frozen?, Z1.out]
          have Z1_f2 : V2.frozen? ⟨w.heap.size, 2, none⟩ = false := by simp [World.frozen?, Z1.out]
          have zZ1 := lt_of_heap Z1.out
          have k3 : V2.cell? ⟨b, o + 1, none⟩ = some (.string (bs y)) := (B2.out.cell (p := ⟨b, o + 1, none⟩) hb).trans c1
          have k4 : V2.cell? ⟨b, o + 2, none⟩ = some (.string (bs z)) := (B2.out.cell (p := ⟨b, o + 2, none⟩) hb).trans c2
          go_simp
          go_wp2
          refine shut_ret (v := .tuple #[.agg #[.int .i64 0, .bool false, .string ⟨#[]⟩], .int .i64 ae]) (by simp [results, Tryz.results125, go_sem, zZ1, Z1_0, Z1_1, Z1_2]) rfl ⟨by rw [E.out, hb0], ?_⟩
          exact keep3 B2.out (Nat.le_refl _) _ _ _
        · have q1 : (y == [115, 116, 100]) = false := by rw [hy]; rfl
          have q2 : (y == [100, 115, 116]) = true := by rw [hy]; rfl
          have q3 : (y == dstL) = true := q2
          have E := Lib.hid (tri_abb hE0 h2 h3)
          have f2 : (abbE z != 0) = true := bne_iff_ne.2 h3
          have H2 := Lib.hid X2
          clear X2 q3
          replace h1 := Lib.hid h1
          replace h2 := Lib.hid h2
          replace h3 := Lib.hid h3
          replace hy := Lib.hid hy
          replace hE0 := Lib.hid hE0
          generalize offV x = ov at *
          generalize abbE z = ae at *
          go_enter Tryz.func125, Tryz.ntmps125
          refine wp_shut ?_
          go_wp2_with fail
          
          refine (H1.out _).mono ?_
          rintro e V1 ⟨rfl, hb1⟩
          have B1 := nby hb1
          have Z1 := Lib.hid (row_call hb1 (heap_alloc_new _ _))
          clear hb1
          obtain ⟨Z1_0, Z1_1, Z1_2⟩ := qw3 Z1
          have Z1_f0 : V1.frozen? ⟨w.heap.size, 0, none⟩ = false := by simp [World.frozen?, Z1.out]
          have Z1_f1 : V1.frozen? ⟨w.heap.size, 1, none⟩ = false := by simp [World.frozen?, Z1.out]
          have Z1_f2 : V1.frozen? ⟨w.heap.size, 2, none⟩ = false := by simp [World.frozen?, Z1.out]
          have zZ1 := lt_of_heap Z1.out
          have k1 : V1.cell? ⟨b, o + 1, none⟩ = some (.string (bs y)) := (B1.out.cell (p := ⟨b, o + 1, none⟩) hb).trans c1
          have k2 : V1.cell? ⟨b, o + 2, none⟩ = some (.string (bs z)) := (B1.out.cell (p := ⟨b, o + 2, none⟩) hb).trans c2
          go_simp
          go_wp2_with fail
          refine (H2.out _).mono ?_
          rintro e V2 ⟨rfl, hb2⟩
          clear Z1_0 Z1_1 Z1_2 Z1_f0 Z1_f1 Z1_f2 zZ1
          have B2 : Hid (Below w.heap.size w V2) := nbx B1 hb2
          replace Z1 := rcx hb2 Z1
          clear hb2
          obtain ⟨Z1_0, Z1_1, Z1_2⟩ := qw3 Z1
          have Z1_f0 : V2.frozen? ⟨w.heap.size, 0, none⟩ = false := by simp [World.frozen?, Z1.out]
          have Z1_f1 : V2.frozen? ⟨w.heap.size, 1, none⟩ = false := by simp [World.frozen?, Z1.out]
          have Z1_f2 : V2.frozen? ⟨w.heap.size, 2, none⟩ = false := by simp [World.frozen?, Z1.out]
          have zZ1 := lt_of_heap Z1.out
          have k3 : V2.cell? ⟨b, o + 1, none⟩ = some (.string (bs y)) := (B2.out.cell (p := ⟨b, o + 1, none⟩) hb).trans c1
          have k4 : V2.cell? ⟨b, o + 2, none⟩ = some (.string (bs z)) := (B2.out.cell (p := ⟨b, o + 2, none⟩) hb).trans c2
          go_simp
          go_wp2
          refine shut_ret (v := .tuple #[.agg #[.int .i64 0, .bool false, .string ⟨#[]⟩], .int .i64 ae]) (by simp [results, Tryz.results125, go_sem, zZ1, Z1_0, Z1_1, Z1_2]) rfl ⟨by rw [E.out, hb0], ?_⟩
          exact keep3 B2.out (Nat.le_refl _) _ _ _
  · have E := Lib.hid (tri_off (y := y) (z := z) h1)
    have f1 : (offE x != 0) = true := bne_iff_ne.2 h1
    have H1 := Lib.hid X1
    replace h1 := Lib.hid h1
    clear X1 X2
    generalize offV x = ov at *
    generalize offE x = oe at *
    go_enter Tryz.func125, Tryz.ntmps125
    refine wp_shut ?_
    go_wp2_with fail
    
    refine (H1.out _).mono ?_
    rintro e V1 ⟨rfl, hb1⟩
    have B1 := nby hb1
    have Z1 := Lib.hid (row_call hb1 (heap_alloc_new _ _))
    clear hb1
    obtain ⟨Z1_0, Z1_1, Z1_2⟩ := qw3 Z1
    have Z1_f0 : V1.frozen? ⟨w.heap.size, 0, none⟩ = false := by simp [World.frozen?, Z1.out]
    have Z1_f1 : V1.frozen? ⟨w.heap.size, 1, none⟩ = false := by simp [World.frozen?, Z1.out]
    have Z1_f2 : V1.frozen? ⟨w.heap.size, 2, none⟩ = false := by simp [World.frozen?, Z1.out]
    have zZ1 := lt_of_heap Z1.out
    go_simp
    go_wp2
    refine shut_ret (v := .tuple #[.agg #[.int .i64 0, .bool false, .string ⟨#[]⟩], .int .i64 oe]) (by simp [results, Tryz.results125, go_sem, zZ1, Z1_0, Z1_1, Z1_2]) rfl ⟨by rw [E.out, hb0], ?_⟩
    exact keep3 B1.out (Nat.le_refl _) _ _ _
end Go.Proofs.YtacpcjdiljnlaaaGreatDoor
namespace Go.Proofs.YtacpcjdiljnlaaaGreatDoor
set_option linter.unusedVariables false
set_option linter.unusedSimpArgs false
open Go.ChangeShapes Go.WideShapes Go.ChangeAt Go.RowKit
def nbN (k : Nat) : List UInt8 := if h : k < 10 then [dgt (k : Int)] else nbN (k / 10) ++ [dgt ((k % 10 : Nat) : Int)]
decreasing_by omega
theorem nbN_small {k : Nat} (h : k < 10) : nbN k = [dgt (k : Int)] := by rw [nbN, dif_pos h]
theorem nbN_big {k : Nat} (h : ¬ k < 10) : nbN k = nbN (k / 10) ++ [dgt ((k % 10 : Nat) : Int)] := by rw [nbN, dif_neg h]
theorem nbN_len (b : Nat) : ∀ k : Nat, k < 10 ^ (b + 1) → (nbN k).length ≤ b + 1 := by
  induction b with
  | zero => intro k h; rw [nbN_small (by simpa using h)]; simp
  | succ b ih =>
    intro k h
    by_cases h10 : k < 10
    · rw [nbN_small h10]; simp
    · rw [nbN_big h10, List.length_append, List.length_singleton]
      have := ih (k / 10) (by rw [Nat.pow_succ] at h; omega)
      omega
@[irreducible] def nbI (n : Int) : List UInt8 := if n < 0 then 45 :: nbN (-n).toNat else nbN n.toNat
theorem nbI_small {n : Int} (h0 : 0 ≤ n) (h : n < 10) : nbI n = [dgt (n % 10)] := by
  unfold nbI
  rw [if_neg (by omega), nbN_small (by omega)]
  congr 2; omega
theorem nbI_big {n : Int} (h : 10 ≤ n) : nbI n = nbI (n / 10) ++ [dgt (n % 10)] := by
  unfold nbI
  rw [if_neg (by omega), if_neg (by omega), nbN_big (by omega)]
  congr 3
  · omega
  · omega
@[irreducible] def ruD (k n w : Int) : List UInt8 := if k = 0 then nbI n else if k = 1 then lastL ++ wkS w else if k = 2 then wkS w ++ [62, 61] ++ nbI n else wkS w ++ [60, 61] ++ nbI n
theorem lit_bs15 (a : Array UInt8) : (⟨a⟩ : ByteArray) = bs a.toList := by unfold bs; simp
end Go.Proofs.YtacpcjdiljnlaaaGreatDoor
namespace Go.Proofs.YtacpcjdiljnlaaaGreatDoor
set_option linter.unusedVariables false
set_option linter.unusedSimpArgs false
structure Lin where
  k : Int
  s : Int
  f : Int
  t : Int
  m : Int
  dk : Int
  dn : Int
  dw : Int
  ti : Int
  rd : Int
  off : Int
  dst : Bool
  abb : List UInt8
structure Src where
  nam : List UInt8
  off : Int
  dst : Bool
  abb : List UInt8
  lns : List Lin
def src0 : Src := ⟨[], 0, false, [], []⟩
def wd (w : List (List UInt8)) (i : Nat) : List UInt8 := w.getD i []
def aliE (w : List (List UInt8)) : Int := if w.length ≠ 5 then 2 else if (momR (wd w 1)).2 ≠ 0 then (momR (wd w 1)).2 else (triR (wd w 2) (wd w 3) (wd w 4)).2.2.2
def aliL (w : List (List UInt8)) : Lin := ⟨1, (momR (wd w 1)).1, 0, 0, 0, 0, 0, 0, 0, 0, (triR (wd w 2) (wd w 3) (wd w 4)).1, (triR (wd w 2) (wd w 3) (wd w 4)).2.1, (triR (wd w 2) (wd w 3) (wd w 4)).2.2.1⟩
def ruE (w : List (List UInt8)) : Int :=
  if w.length ≠ 10 then 2 else if (yrsR (wd w 1) (wd w 2)).2.2 ≠ 0 then (yrsR (wd w 1) (wd w 2)).2.2 else if monI (wd w 3) = 0 then 2
  else if (dayR (wd w 4)).2.2.2 ≠ 0 then (dayR (wd w 4)).2.2.2 else if timE (wd w 5) ≠ 0 then timE (wd w 5) else if offE (wd w 6) ≠ 0 then offE (wd w 6)
  else if (triR (wd w 7) (wd w 8) (wd w 9)).2.2.2 ≠ 0 then (triR (wd w 7) (wd w 8) (wd w 9)).2.2.2 else if (yrsR (wd w 1) (wd w 2)).2.1 < (yrsR (wd w 1) (wd w 2)).1 then 5 else 0
def ruL (w : List (List UInt8)) : Lin :=
  ⟨2, 0, (yrsR (wd w 1) (wd w 2)).1, (yrsR (wd w 1) (wd w 2)).2.1, monI (wd w 3), (dayR (wd w 4)).1, (dayR (wd w 4)).2.1, (dayR (wd w 4)).2.2.1, timV (wd w 5), offV (wd w 6),
    (triR (wd w 7) (wd w 8) (wd w 9)).1, (triR (wd w 7) (wd w 8) (wd w 9)).2.1, (triR (wd w 7) (wd w 8) (wd w 9)).2.2.1⟩
def tailN (l : List Lin) : Nat := (l.filter (fun x => x.t == 1048576)).length
def atW : List UInt8 := [97, 116]
def rulW : List UInt8 := [114, 117, 108, 101]
def zonW : List UInt8 := [122, 111, 110, 101]
def basW : List UInt8 := [98, 97, 115, 101]
def lnE (ls : List Lin) (w : List (List UInt8)) : Int :=
  if 16 ≤ ls.length then 1 else if wd w 0 = atW then aliE w else if wd w 0 = rulW then (if w.length = 10 ∧ wd w 2 = onL ∧ 4 ≤ tailN ls then 1 else ruE w) else 2
def lnL (w : List (List UInt8)) : Lin := if wd w 0 = atW then aliL w else ruL w
def hdE (n : Nat) (w : List (List UInt8)) : Int :=
  if n = 0 then (if wd w 0 ≠ zonW ∨ w.length ≠ 2 then 2 else namE (wd w 1)) else (if wd w 0 ≠ basW ∨ w.length ≠ 3 then 2 else if offE (wd w 1) ≠ 0 then offE (wd w 1) else abbE (wd w 2))
def hdS (z : Src) (n : Nat) (w : List (List UInt8)) : Src := if n = 0 then { z with nam := wd w 1 } else { z with off := offV (wd w 1), dst := false, abb := wd w 2 }
def stE (z : Src) (n : Nat) (w : List (List UInt8)) : Int := if n < 2 then hdE n w else lnE z.lns w
def stS (z : Src) (n : Nat) (w : List (List UInt8)) : Src := if n < 2 then hdS z n w else { z with lns := z.lns ++ [lnL w] }
def prsT : List Tok → Src → Nat → List (List UInt8) → Src × Int × Int
  | [], z, n, _ => if n < 2 then (src0, 0, 2) else (z, 0, 0)
  | (t, k) :: r, z, n, w => if t ≠ [10] then prsT r z n (w ++ [t]) else if stE z n w ≠ 0 then (src0, k, stE z n w) else prsT r (stS z n w) (n + 1) []
def prsR (s : List UInt8) : Src × Int × Int := if lexE s ≠ 0 then (src0, 0, lexE s) else prsT (lexT s) src0 0 []
theorem prsT_word {t : List UInt8} {k : Int} {r : List Tok} {z : Src} {n : Nat} {w : List (List UInt8)} (h : t ≠ [10]) : prsT ((t, k) :: r) z n w = prsT r z n (w ++ [t]) := by rw [prsT, if_pos h]
theorem prsT_err {k : Int} {r : List Tok} {z : Src} {n : Nat} {w : List (List UInt8)} (h : stE z n w ≠ 0) : prsT (([10], k) :: r) z n w = (src0, k, stE z n w) := by rw [prsT, if_neg (by simp), if_pos h]
theorem prsT_line {k : Int} {r : List Tok} {z : Src} {n : Nat} {w : List (List UInt8)} (h : stE z n w = 0) : prsT (([10], k) :: r) z n w = prsT r (stS z n w) (n + 1) [] := by rw [prsT, if_neg (by simp), if_neg (by simpa using h)]
def OkT (off : Int) (abb : List UInt8) : Prop := -64800 ≤ off ∧ off ≤ 64800 ∧ abbE abb = 0
def OkL (l : Lin) : Prop :=
  ((l.k = 1 ∧ l.f = 0 ∧ l.t = 0 ∧ l.m = 0 ∧ l.dk = 0 ∧ l.dn = 0 ∧ l.dw = 0 ∧ l.ti = 0 ∧ l.rd = 0 ∧ -377705116800 ≤ l.s ∧ l.s ≤ 253402300799) ∨
   (l.k = 2 ∧ l.s = 0 ∧ -9999 ≤ l.f ∧ l.f ≤ 9999 ∧ (l.t = 1048576 ∨ (-9999 ≤ l.t ∧ l.t ≤ 9999 ∧ l.f ≤ l.t)) ∧ 1 ≤ l.m ∧ l.m ≤ 12 ∧ mayD l.dk l.dn l.dw = true ∧ 0 ≤ l.ti ∧ l.ti ≤ 86400 ∧ -64800 ≤ l.rd ∧ l.rd ≤ 64800)) ∧ OkT l.off l.abb
def OkS (z : Src) : Prop := z.lns.length ≤ 16 ∧ tailN z.lns ≤ 4 ∧ namE z.nam = 0 ∧ OkT z.off z.abb ∧ z.dst = false ∧ ∀ l ∈ z.lns, OkL l
theorem nbN_dg : ∀ k : Nat, (nbN k).all dgB = true ∧ dval (nbN k) = k ∧ 0 < (nbN k).length ∧ (zero1 (nbN k) = true → k = 0) := by
  intro k
  induction k using Nat.strongRecOn with
  | ind k ih =>
    by_cases h : k < 10
    · rw [nbN_small h]
      have e := dgt_nat (p := (k : Int)) (by omega) (by omega)
      have d := dgB_dgt (p := (k : Int)) (by omega) (by omega)
      refine ⟨by simp [d], by unfold dval; simp [e], by simp, ?_⟩
      intro hz
      unfold zero1 at hz
      simp [e] at hz
      omega
    · rw [nbN_big h]
      obtain ⟨a, b, c, z⟩ := ih (k / 10) (by omega)
      have e := dgt_nat (p := ((k % 10 : Nat) : Int)) (by omega) (by omega)
      have d := dgB_dgt (p := ((k % 10 : Nat) : Int)) (by omega) (by omega)
      refine ⟨by rw [List.all_append, a, List.all_cons, d]; rfl, by rw [dval_snoc, b, e]; omega, by simp, ?_⟩
      intro hz
      have : zero1 (nbN (k / 10)) = true := by
        cases hx : nbN (k / 10) with
        | nil => rw [hx] at c; simp at c
        | cons x y => rw [hx] at hz; simpa [zero1] using hz
      have := z this
      omega
end Go.Proofs.YtacpcjdiljnlaaaGreatDoor
namespace Go.Proofs.YtacpcjdiljnlaaaGreatDoor
set_option linter.unusedVariables false
set_option linter.unusedSimpArgs false
def plB (c : UInt8) : Bool := decide (33 ≤ c.toNat) && decide (c.toNat ≤ 126) && !(c.toNat == 35)
theorem plB_iff (c : UInt8) : plB c = true ↔ 33 ≤ c.toNat ∧ c.toNat ≤ 126 ∧ c.toNat ≠ 35 := by unfold plB; simp [and_assoc]
def plW (t : List UInt8) : Prop := t ≠ [] ∧ t.all plB = true
end Go.Proofs.YtacpcjdiljnlaaaGreatDoor
namespace Go.Proofs.YtacpcjdiljnlaaaGreatDoor
set_option linter.unusedVariables false
set_option linter.unusedSimpArgs false
theorem plB_dg {c : UInt8} (h : dgB c = true) : plB c = true := by rw [plB_iff]; have := (dgB_iff c).1 h; omega
theorem pl_all {a b : List UInt8} (ha : a.all plB = true) (hb : b.all plB = true) : (a ++ b).all plB = true := by rw [List.all_append, ha, hb]; rfl
theorem pl_dgs {t : List UInt8} (h : t.all dgB = true) : t.all plB = true := List.all_eq_true.2 (fun c hc => plB_dg (List.all_eq_true.1 h c hc))
theorem nbI_ne (n : Int) : nbI n ≠ [] := by
  unfold nbI
  split
  · simp
  · have := (nbN_dg n.toNat).2.2.1
    intro h; rw [h] at this; simp at this
theorem pl_nb (n : Int) : plW (nbI n) := by
  refine ⟨nbI_ne n, ?_⟩
  unfold nbI
  split
  · rw [List.all_cons, pl_dgs (nbN_dg _).1]; rfl
  · exact pl_dgs (nbN_dg _).1
theorem nbI_len7 {n : Int} (h1 : -999999 ≤ n) (h2 : n ≤ 999999) : (nbI n).length ≤ 7 := by
  unfold nbI
  split
  · have := nbN_len 5 (-n).toNat (by omega); simp; omega
  · have := nbN_len 5 n.toNat (by omega); omega
theorem nb_nm {n : Int} (h1 : 1 ≤ n) (h2 : n ≤ 31) : nbI n = nmL n := by
  unfold nmL
  by_cases h : 10 ≤ n
  · rw [if_pos h, nbI_big h, nbI_small (by omega) (by omega), show n / 10 % 10 = n / 10 by omega]; rfl
  · rw [if_neg h, nbI_small (by omega) (by omega)]
theorem wkS_pl : ∀ k : Fin 7, (wkS ((k.val : Int) + 1)).all plB = true := by decide +kernel
theorem wkS_plW {k : Int} (h1 : 1 ≤ k) (h7 : k ≤ 7) : (wkS k).all plB = true := by
  have := wkS_pl ⟨(k - 1).toNat, by omega⟩
  rwa [show (((k - 1).toNat : Nat) : Int) + 1 = k by omega] at this
theorem mayD_parts {k n w : Int} (h : mayD k n w = true) : (k = 0 ∧ (1 ≤ n ∧ n ≤ 31) ∧ w = 0) ∨ (k = 1 ∧ (1 ≤ w ∧ w ≤ 7) ∧ n = 0) ∨ (k = 2 ∧ (1 ≤ w ∧ w ≤ 7) ∧ (1 ≤ n ∧ n ≤ 31)) ∨ (k = 3 ∧ (1 ≤ w ∧ w ≤ 7) ∧ (1 ≤ n ∧ n ≤ 31)) := by
  unfold mayD at h
  by_cases h0 : k = 0
  · rw [if_pos h0] at h; simp [okN] at h; omega
  · rw [if_neg h0] at h
    by_cases h1 : k = 1
    · rw [if_pos h1] at h; simp [okW] at h; omega
    · rw [if_neg h1] at h
      by_cases h2 : k = 2 ∨ k = 3
      · rw [if_pos h2] at h; simp [okN, okW] at h; omega
      · rw [if_neg h2] at h; cases h
theorem day_back {k n w : Int} (h : mayD k n w = true) : dayR (ruD k n w) = (k, n, w, 0) ∧ plW (ruD k n w) ∧ (ruD k n w).length ≤ 8 := by
  rcases mayD_parts h with ⟨rfl, ⟨n1, n2⟩, rfl⟩ | ⟨rfl, ⟨w1, w2⟩, rfl⟩ | ⟨rfl, ⟨w1, w2⟩, n1, n2⟩ | ⟨rfl, ⟨w1, w2⟩, n1, n2⟩
  · have e : ruD 0 n 0 = nbI n := by unfold ruD; rfl
    have d := (wk_days (w := 1) (n := n) (by decide) (by decide) n1 n2).2.2.2
    rw [e]
    exact ⟨by rw [nb_nm n1 n2]; exact d, pl_nb n, by have := nbI_len7 (n := n) (by omega) (by omega); omega⟩
  · have e : ruD 1 0 w = lastL ++ wkS w := by unfold ruD; rfl
    have d := (wk_days (w := w) (n := 1) w1 w2 (by decide) (by decide)).1
    have l := wkS_len w w1 w2
    rw [e]
    exact ⟨d, ⟨by unfold lastL; simp, pl_all (by decide) (wkS_plW w1 w2)⟩, by rw [List.length_append, l]; decide⟩
  · have e : ruD 2 n w = wkS w ++ [62, 61] ++ nbI n := by unfold ruD; rfl
    have d := (wk_days (w := w) (n := n) w1 w2 n1 n2).2.1
    have l := wkS_len w w1 w2
    rw [e, nb_nm n1 n2]
    refine ⟨d, ⟨by simp, pl_all (pl_all (wkS_plW w1 w2) (by decide)) (by rw [← nb_nm n1 n2]; exact (pl_nb n).2)⟩, ?_⟩
    rw [List.length_append, List.length_append, l]
    unfold nmL
    split <;> simp
  · have e : ruD 3 n w = wkS w ++ [60, 61] ++ nbI n := by unfold ruD; rfl
    have d := (wk_days (w := w) (n := n) w1 w2 n1 n2).2.2.1
    have l := wkS_len w w1 w2
    rw [e, nb_nm n1 n2]
    refine ⟨d, ⟨by simp, pl_all (pl_all (wkS_plW w1 w2) (by decide)) (by rw [← nb_nm n1 n2]; exact (pl_nb n).2)⟩, ?_⟩
    rw [List.length_append, List.length_append, l]
    unfold nmL
    split <;> simp
end Go.Proofs.YtacpcjdiljnlaaaGreatDoor
namespace Go.Proofs.YtacpcjdiljnlaaaGreatDoor
set_option linter.unusedVariables false
set_option linter.unusedSimpArgs false
theorem tailN_app (a b : List Lin) : tailN (a ++ b) = tailN a + tailN b := by unfold tailN; simp
theorem tailN_one (l : Lin) : tailN [l] = if l.t = 1048576 then 1 else 0 := by unfold tailN; by_cases h : l.t = 1048576 <;> simp [h]
theorem num_in {L : List UInt8} {lo hi : Int} (h : numE L lo hi = 0) : lo ≤ numV L lo hi ∧ numV L lo hi ≤ hi := by
  unfold numV
  rw [if_pos h]
  unfold numE at h
  split at h
  · split at h
    · exact absurd h (by decide)
    · omega
  · exact absurd h (by decide)
theorem yrs_in {a b : List UInt8} (h : (yrsR a b).2.2 = 0) : -9999 ≤ (yrsR a b).1 ∧ (yrsR a b).1 ≤ 9999 ∧ ((yrsR a b).2.1 = 1048576 ∧ b = onL ∨ -9999 ≤ (yrsR a b).2.1 ∧ (yrsR a b).2.1 ≤ 9999) := by
  unfold yrsR at *
  split at h
  · rename_i h1; exact absurd h h1
  · rename_i h1
    have n1 := num_in (L := a) (lo := -9999) (hi := 9999) (by omega)
    rw [if_neg h1]
    split at h
    · rename_i h2; rw [if_pos h2]; exact ⟨n1.1, n1.2, Or.inr n1⟩
    · rename_i h2
      rw [if_neg h2]
      split at h
      · rename_i h3; rw [if_pos h3]; exact ⟨n1.1, n1.2, Or.inl ⟨rfl, h3⟩⟩
      · rename_i h3; rw [if_neg h3]; exact ⟨n1.1, n1.2, Or.inr (num_in h)⟩
theorem day_in {t : List UInt8} (h : (dayR t).2.2.2 = 0) : mayD (dayR t).1 (dayR t).2.1 (dayR t).2.2.1 = true := by
  unfold dayR at *
  split at h
  · rename_i h1
    rw [if_pos h1]
    split at h
    · exact absurd h (by decide)
    · rename_i h2
      rw [if_neg h2]
      have := wkd_bd (t.drop 5)
      unfold mayD okW
      rw [if_neg (by simp), if_pos rfl]
      simp
      omega
  · rename_i h1
    rw [if_neg h1]
    split at h
    · rename_i h2
      rw [if_pos h2]
      have := wkd_bd (t.take 3)
      split at h
      · rename_i h3
        rw [if_pos h3]
        split at h
        · rename_i h4
          rw [if_pos h4]
          have := num_in h4
          unfold mayD okW okN
          rw [if_neg (by simp), if_neg (by simp), if_pos (by simp)]
          simp
          omega
        · rename_i h4; exact absurd h h4
      · rename_i h3
        rw [if_neg h3]
        split at h
        · rename_i h5
          rw [if_pos h5]
          split at h
          · rename_i h4
            rw [if_pos h4]
            have := num_in h4
            unfold mayD okW okN
            rw [if_neg (by simp), if_neg (by simp), if_pos (by simp)]
            simp
            omega
          · rename_i h4; exact absurd h h4
        · exact absurd h (by decide)
    · rename_i h2
      rw [if_neg h2]
      split at h
      · rename_i h4
        rw [if_pos h4]
        have := num_in h4
        unfold mayD okN
        rw [if_pos rfl]
        simp
        omega
      · rename_i h4; exact absurd h h4
theorem tim_in {t : List UInt8} (h : timE t = 0) : 0 ≤ timV t ∧ timV t ≤ 86400 := by
  unfold timV
  rw [if_pos h]
  unfold timE at h
  split at h
  · exact absurd h (by decide)
  · split at h
    · exact absurd h (by decide)
    · omega
theorem off_in {t : List UInt8} (h : offE t = 0) : -64800 ≤ offV t ∧ offV t ≤ 64800 := by
  unfold offV
  rw [if_pos h]
  unfold offE at h
  split at h
  · exact absurd h (by decide)
  · split at h
    · exact absurd h (by decide)
    · split at h
      · exact absurd h (by decide)
      · split <;> omega
theorem tri_in {x y a : List UInt8} (h : (triR x y a).2.2.2 = 0) : OkT (triR x y a).1 (triR x y a).2.2.1 := by
  unfold triR at *
  split at h
  · rename_i h1; exact absurd h h1
  · rename_i h1
    rw [if_neg h1]
    split at h
    · exact absurd h (by decide)
    · rename_i h2
      rw [if_neg h2]
      split at h
      · rename_i h3; exact absurd h h3
      · rename_i h3
        rw [if_neg h3]
        have := off_in (t := x) (by omega)
        exact ⟨this.1, this.2, by show abbE a = 0; omega⟩
theorem nu_in {y m d h i s : Int} (hc : ckT y m d h i s 0 = 0) : -377705116800 ≤ nuT y m d h i s ∧ nuT y m d h i s ≤ 253402300799 := by
  rcases (isCiv_back hc).1 with ⟨a, _⟩ | ⟨_, _, _, _, _, _, _, _, _, _, e⟩ | ⟨_, _, a, b, _⟩
  · omega
  · exact absurd e (by decide)
  · exact ⟨a, b⟩
theorem mom_in {t : List UInt8} (h : (momR t).2 = 0) : -377705116800 ≤ (momR t).1 ∧ (momR t).1 ≤ 253402300799 := by
  have key : ∀ (neg : Bool) (y m d hh i s : Int), (momS neg y m d hh i s).2 = 0 → -377705116800 ≤ (momS neg y m d hh i s).1 ∧ (momS neg y m d hh i s).1 ≤ 253402300799 := by
    intro neg y m d hh i s h
    unfold momS at *
    split at h
    · exact absurd h (by decide)
    · rename_i h1
      rw [if_neg h1]
      split at h
      · exact absurd h (by decide)
      · rename_i h2
        rw [if_neg h2]
        have h' : ckT (yrS neg y) m d hh i s 0 = 0 := h
        show -377705116800 ≤ seT (yrS neg y) m d hh i s 0 ∧ seT (yrS neg y) m d hh i s 0 ≤ 253402300799
        rw [seT_ok h']
        exact nu_in h'
  unfold momR at *
  split at h
  · rename_i h1; rw [if_pos h1]; exact key _ _ _ _ _ _ _ h
  · exact absurd h (by decide)
theorem ali_in {w : List (List UInt8)} (h : aliE w = 0) : OkL (aliL w) ∧ (aliL w).t = 0 := by
  unfold aliE at h
  split at h
  · exact absurd h (by decide)
  · split at h
    · rename_i h2; exact absurd h h2
    · rename_i h2
      have := mom_in (t := wd w 1) (by omega)
      exact ⟨⟨Or.inl ⟨rfl, rfl, rfl, rfl, rfl, rfl, rfl, rfl, rfl, this.1, this.2⟩, tri_in h⟩, rfl⟩
theorem ru_in {w : List (List UInt8)} (h : ruE w = 0) : OkL (ruL w) ∧ ((ruL w).t = 1048576 → w.length = 10 ∧ wd w 2 = onL) := by
  unfold ruE at h
  split at h
  · exact absurd h (by decide)
  · rename_i h1
    split at h
    · rename_i h2; exact absurd h h2
    · rename_i h2
      split at h
      · exact absurd h (by decide)
      · rename_i h3
        split at h
        · rename_i h4; exact absurd h h4
        · rename_i h4
          split at h
          · rename_i h5; exact absurd h h5
          · rename_i h5
            split at h
            · rename_i h6; exact absurd h h6
            · rename_i h6
              split at h
              · rename_i h7; exact absurd h h7
              · rename_i h7
                split at h
                · exact absurd h (by decide)
                · rename_i h8
                  obtain ⟨a1, a2, a3⟩ := yrs_in (a := wd w 1) (b := wd w 2) (by omega)
                  obtain ⟨_, m1, m2⟩ := mon_some h3
                  have d := day_in (t := wd w 4) (by omega)
                  have t := tim_in (t := wd w 5) (by omega)
                  have o := off_in (t := wd w 6) (by omega)
                  have r := tri_in (x := wd w 7) (y := wd w 8) (a := wd w 9) (by omega)
                  refine ⟨⟨Or.inr ⟨rfl, rfl, a1, a2, ?_, m1, m2, d, t.1, t.2, o.1, o.2⟩, r⟩, fun ht => ⟨by omega, ?_⟩⟩
                  · show (yrsR (wd w 1) (wd w 2)).2.1 = 1048576 ∨ (-9999 ≤ (yrsR (wd w 1) (wd w 2)).2.1 ∧ (yrsR (wd w 1) (wd w 2)).2.1 ≤ 9999 ∧ (yrsR (wd w 1) (wd w 2)).1 ≤ (yrsR (wd w 1) (wd w 2)).2.1)
                    omega
                  · have ht' : (yrsR (wd w 1) (wd w 2)).2.1 = 1048576 := ht
                    rcases a3 with ⟨_, b⟩ | ⟨b, c⟩
                    · exact b
                    · omega
def RdS (n : Nat) (z : Src) : Prop := z.dst = false ∧ (n < 2 → z.lns = []) ∧ (1 ≤ n → namE z.nam = 0) ∧ (2 ≤ n → OkS z)
theorem st_in {z : Src} {n : Nat} {w : List (List UInt8)} (hi : RdS n z) (h : stE z n w = 0) : RdS (n + 1) (stS z n w) := by
  obtain ⟨i0, i1, i2, i3⟩ := hi
  unfold stE at h
  by_cases hn : n < 2
  · rw [if_pos hn] at h
    unfold stS
    rw [if_pos hn]
    unfold hdE at h
    by_cases h0 : n = 0
    · rw [if_pos h0] at h
      unfold hdS
      rw [if_pos h0]
      split at h
      · exact absurd h (by decide)
      · exact ⟨i0, fun _ => i1 hn, fun _ => h, fun h2 => by omega⟩
    · rw [if_neg h0] at h
      unfold hdS
      rw [if_neg h0]
      split at h
      · exact absurd h (by decide)
      · split at h
        · rename_i h2; exact absurd h h2
        · rename_i h2
          have o := off_in (t := wd w 1) (by omega)
          refine ⟨rfl, fun h3 => by omega, fun _ => i2 (by omega), fun _ => ?_⟩
          have hl := i1 hn
          exact ⟨by show z.lns.length ≤ 16; rw [hl]; decide, by show tailN z.lns ≤ 4; rw [hl]; decide, i2 (by omega), ⟨o.1, o.2, h⟩, rfl, by show ∀ l ∈ z.lns, OkL l; rw [hl]; simp⟩
  · rw [if_neg hn] at h
    unfold stS
    rw [if_neg hn]
    obtain ⟨j1, j2, j3, j4, j5, j6⟩ := i3 (by omega)
    have key : OkL (lnL w) ∧ z.lns.length < 16 ∧ tailN (z.lns ++ [lnL w]) ≤ 4 := by
      unfold lnE at h
      unfold lnL
      rw [tailN_app, tailN_one]
      split at h
      · exact absurd h (by decide)
      · rename_i h1
        split at h
        · rename_i h2
          rw [if_pos h2]
          have a := ali_in h
          exact ⟨a.1, by omega, by rw [if_neg (by rw [a.2]; decide)]; omega⟩
        · rename_i h2
          rw [if_neg h2]
          split at h
          · split at h
            · exact absurd h (by decide)
            · rename_i h4
              have a := ru_in h
              refine ⟨a.1, by omega, ?_⟩
              split
              · rename_i h5
                have := a.2 h5
                have : ¬ 4 ≤ tailN z.lns := fun h6 => h4 ⟨this.1, this.2, h6⟩
                omega
              · omega
          · exact absurd h (by decide)
    refine ⟨i0, fun h3 => by omega, fun _ => i2 (by omega), fun _ => ⟨by simp; omega, key.2.2, j3, j4, j5, ?_⟩⟩
    intro l hl
    rcases List.mem_append.1 hl with h1 | h1
    · exact j6 l h1
    · rw [List.mem_singleton.1 h1]; exact key.1
theorem prsT_in (T : List Tok) : ∀ {z : Src} {n : Nat} {w : List (List UInt8)}, RdS n z → (prsT T z n w).2.2 = 0 → OkS (prsT T z n w).1 ∧ (prsT T z n w).2.1 = 0 := by
  induction T with
  | nil =>
    intro z n w hi h
    rw [prsT] at *
    split at h
    · exact absurd h (by decide)
    · rename_i h2; rw [if_neg h2]; exact ⟨hi.2.2.2 (by omega), rfl⟩
  | cons x r ih =>
    intro z n w hi h
    obtain ⟨t, k⟩ := x
    by_cases ht : t = [10]
    · subst ht
      by_cases he : stE z n w = 0
      · rw [prsT_line he] at *
        exact ih (st_in hi he) h
      · rw [prsT_err he] at h
        exact absurd h he
    · rw [prsT_word ht] at *
      exact ih hi h
theorem prs_in {s : List UInt8} (h : (prsR s).2.2 = 0) : OkS (prsR s).1 ∧ (prsR s).2.1 = 0 ∧ lexE s = 0 := by
  unfold prsR at *
  by_cases he : lexE s = 0
  · rw [if_neg (by omega)] at *
    have := prsT_in (lexT s) (z := src0) (n := 0) (w := []) ⟨rfl, fun _ => rfl, fun h => by omega, fun h => by omega⟩ h
    exact ⟨this.1, this.2, he⟩
  · rw [if_pos he] at h
    exact absurd h he
end Go.Proofs.YtacpcjdiljnlaaaGreatDoor
namespace Go.Proofs.YtacpcjdiljnlaaaGreatDoor
set_option linter.unusedVariables false
set_option linter.unusedSimpArgs false
def triE (off : Int) (abb : List UInt8) : Int := fsI (abbE abb) (if off < -64800 ∨ 64800 < off then 8 else 0)
theorem fsI_zero (x y : Int) : fsI x y = 0 ↔ x = 0 ∧ y = 0 := by
  unfold fsI
  split
  · constructor <;> (intro h; omega)
  · split
    · constructor <;> (intro h; omega)
    · split <;> (constructor <;> (intro h; omega))
theorem triE_zero (off : Int) (abb : List UInt8) : triE off abb = 0 ↔ OkT off abb := by
  unfold triE OkT
  rw [fsI_zero]
  split
  · constructor <;> (intro h; omega)
  · constructor <;> (intro h; omega)
def srcV (z : Src) (A : Option Go.Addr) (c : Nat) : Go.Value := .agg #[.string (bs z.nam), .int .i64 z.off, .bool z.dst, .string (bs z.abb), .slice A z.lns.length c]
def landL : List UInt8 := [122, 111, 110, 101, 32, 77, 105, 100, 47, 76, 97, 110, 100, 10, 98, 97, 115, 101, 32, 43, 48, 49, 58, 48, 48, 32, 67, 69, 84, 10, 114, 117, 108, 101, 32, 49, 57, 57, 54, 32, 111, 110, 32, 109, 97, 114, 32, 108, 97, 115, 116, 45, 115, 117, 110, 32, 48, 49, 58, 48, 48, 32, 43, 48, 48, 58, 48, 48, 32, 43, 48, 50, 58, 48, 48, 32, 100, 115, 116, 32, 67, 69, 83, 84, 10, 114, 117, 108, 101, 32, 49, 57, 57, 54, 32, 111, 110, 32, 111, 99, 116, 32, 108, 97, 115, 116, 45, 115, 117, 110, 32, 48, 49, 58, 48, 48, 32, 43, 48, 48, 58, 48, 48, 32, 43, 48, 49, 58, 48, 48, 32, 115, 116, 100, 32, 67, 69, 84, 10]
def midL : List UInt8 := [77, 105, 100, 47, 76, 97, 110, 100]
def landZ : Src := ⟨midL, 3600, false, [67, 69, 84], [⟨2, 0, 1996, 1048576, 3, 1, 0, 7, 3600, 0, 7200, true, [67, 69, 83, 84]⟩, ⟨2, 0, 1996, 1048576, 10, 1, 0, 7, 3600, 0, 3600, false, [67, 69, 84]⟩]⟩
theorem land_prs : prsR landL = (landZ, 0, 0) := by kernel_rfl
theorem land_ok : OkS landZ := by
  have := (prs_in (s := landL) (by rw [land_prs])).1
  rwa [land_prs] at this
end Go.Proofs.YtacpcjdiljnlaaaGreatDoor
namespace Go.Proofs.YtacpcjdiljnlaaaGreatDoor
set_option linter.unusedVariables false
set_option linter.unusedSimpArgs false
open Go.ChangeShapes Go.WideShapes Go.ChangeAt Go.RowKit
theorem rows_two (w : World) (a b : Obj) : ((w.alloc a).alloc b).heap[w.heap.size]? = some a ∧ ((w.alloc a).alloc b).heap[w.heap.size + 1]? = some b := by
  have e : (w.alloc a).heap.size = w.heap.size + 1 := by simp
  have h := heap_alloc_new (w.alloc a) b
  rw [e] at h
  refine ⟨?_, h⟩
  rw [Below.heap_alloc (w.alloc a) b _ (by omega)]
  exact heap_alloc_new w a
def linV (l : Lin) : List Value :=
  [.int .i64 l.k, .int .i64 l.s, .int .i64 l.f, .int .i64 l.t, .int .i64 l.m, .int .i64 l.dk, .int .i64 l.dn, .int .i64 l.dw, .int .i64 l.ti, .int .i64 l.rd, .int .i64 l.off, .bool l.dst, strV l.abb]
def linVs (l : List Lin) : List Value := l.flatMap linV
theorem linVs_snoc (T : List Lin) (l : Lin) : linVs (T ++ [l]) = linVs T ++ linV l := by unfold linVs; simp
theorem linVs_at (T : List Lin) : ∀ (k : Nat) (h : k < T.length) (j : Nat), j < 13 → (linVs T)[k * 13 + j]? = (linV T[k])[j]? := by
  induction T with
  | nil => intro k h; simp at h
  | cons t T ih =>
    intro k h j hj
    have e : linVs (t :: T) = linV t ++ linVs T := by unfold linVs; rw [List.flatMap_cons]
    have hl : (linV t).length = 13 := rfl
    rw [e]
    cases k with
    | zero => rw [List.getElem?_append_left (by omega)]; simp
    | succ k =>
      rw [List.getElem?_append_right (by omega), hl, show (k + 1) * 13 + j - 13 = k * 13 + j by omega, ih k (by simpa using h) j hj]
      simp
theorem Rd.lin {w : World} {A : Option Addr} {T : List Lin} (h : Rd w A (linVs T)) {k : Nat} (hk : k < T.length) :
    ∃ b o, A = some ⟨b, o, none⟩ ∧ b < w.heap.size ∧ ∀ i (hi : i < T.length), w.cell? ⟨b, o + i * 13, none⟩ = some (.int .i64 T[i].k) ∧ w.cell? ⟨b, o + i * 13 + 1, none⟩ = some (.int .i64 T[i].s) ∧ w.cell? ⟨b, o + i * 13 + 2, none⟩ = some (.int .i64 T[i].f) ∧
      w.cell? ⟨b, o + i * 13 + 3, none⟩ = some (.int .i64 T[i].t) ∧ w.cell? ⟨b, o + i * 13 + 4, none⟩ = some (.int .i64 T[i].m) ∧ w.cell? ⟨b, o + i * 13 + 5, none⟩ = some (.int .i64 T[i].dk) ∧ w.cell? ⟨b, o + i * 13 + 6, none⟩ = some (.int .i64 T[i].dn) ∧
      w.cell? ⟨b, o + i * 13 + 7, none⟩ = some (.int .i64 T[i].dw) ∧ w.cell? ⟨b, o + i * 13 + 8, none⟩ = some (.int .i64 T[i].ti) ∧ w.cell? ⟨b, o + i * 13 + 9, none⟩ = some (.int .i64 T[i].rd) ∧ w.cell? ⟨b, o + i * 13 + 10, none⟩ = some (.int .i64 T[i].off) ∧
      w.cell? ⟨b, o + i * 13 + 11, none⟩ = some (.bool T[i].dst) ∧ w.cell? ⟨b, o + i * 13 + 12, none⟩ = some (.string (bs T[i].abb)) := by
  have h0 := linVs_at T k hk 0 (by decide)
  obtain ⟨b, o, hA, hb, _⟩ := h _ _ h0
  refine ⟨b, o, hA, hb, fun i hi => ?_⟩
  have key : ∀ j (hj : j < 13) u, (linV T[i])[j]? = some u → w.cell? ⟨b, o + i * 13 + j, none⟩ = some u := by
    intro j hj u hu
    have := h.at_ hA ((linVs_at T i hi j hj).trans hu)
    rwa [← Nat.add_assoc] at this
  exact ⟨key 0 (by decide) _ rfl, key 1 (by decide) _ rfl, key 2 (by decide) _ rfl, key 3 (by decide) _ rfl, key 4 (by decide) _ rfl, key 5 (by decide) _ rfl, key 6 (by decide) _ rfl, key 7 (by decide) _ rfl, key 8 (by decide) _ rfl, key 9 (by decide) _ rfl, key 10 (by decide) _ rfl, key 11 (by decide) _ rfl, key 12 (by decide) _ rfl⟩
def RetSrc (z : Src) (n E : Int) (w : World) (r : Ending) (w' : World) : Prop :=
  ∃ (A : Option Addr) (c : Nat), r = .returned (.tuple #[.agg #[.string (bs z.nam), .int .i64 z.off, .bool z.dst, .string (bs z.abb), .slice A z.lns.length c], .int .i64 n, .int .i64 E]) ∧ Rd w' A (linVs z.lns) ∧ Below w.heap.size w w'
end Go.Proofs.YtacpcjdiljnlaaaGreatDoor
namespace Go.Proofs.YtacpcjdiljnlaaaGreatDoor
set_option linter.unusedVariables false
set_option linter.unusedSimpArgs false
open Go.ChangeShapes Go.WideShapes Go.ChangeAt Go.RowKit
theorem tailN_take {T : List Lin} {k : Nat} (h : k < T.length) : tailN (T.take (k + 1)) = tailN (T.take k) + if T[k].t = 1048576 then 1 else 0 := by
  rw [List.take_succ_eq_append_getElem h, tailN_app, tailN_one]
theorem tailN_le (T : List Lin) : tailN T ≤ T.length := List.length_filter_le _ _
set_option maxHeartbeats 1600000 in
set_option maxRecDepth 100000 in
theorem rTails_any (T : List Lin) (A : Option Addr) (c : Nat) (w : World) (hT : T.length ≤ 9223372036854775807) (hR : Rd w A (linVs T)) : Calls Tryz.prog 41 #[.slice A T.length c] w fun e w' => e = .returned (.int .i64 (tailN T : Int)) ∧ w = w' := by
  have HR := Lib.hid hR
  clear hR
  have hn : ∀ k, k ≤ T.length → tailN (T.take k) ≤ k := fun k hk => by have := tailN_le (T.take k); simp at this; omega
  replace hn := Lib.hid hn
  go_enter Tryz.func41, Tryz.ntmps41
  go_wp2
  go_loop [3, 4] (fun n i => ∃ k : Nat, k ≤ T.length ∧ i = .int .i64 (k : Int) ∧ n = .int .i64 (tailN (T.take k) : Int)) (fun _ i => T.length - (intOf i).toNat)
  case atStart => exact ⟨0, by omega, rfl, rfl⟩
  case round =>
    obtain ⟨k, hk, rfl, rfl⟩ := hrel
    have hnk := hn.out k hk
    by_cases hlt : k < T.length
    · obtain ⟨b, o, rfl, hb, hc⟩ := HR.out.lin hlt
      have k3 := (hc k hlt).2.2.2.1
      have E : Hid (tailN (T.take (k + 1)) = tailN (T.take k) + if T[k].t = 1048576 then 1 else 0) := Lib.hid (tailN_take hlt)
      clear hc
      generalize T[k].t = t at *
      generalize tailN (T.take k) = N at *
      by_cases ht : t = 1048576
      · subst ht
        go_wp2
        go_round
        case rel => exact ⟨k + 1, by omega, by go_num, by rw [E.out, if_pos rfl]; go_num⟩
        case measure => simp [intOf]; omega
      · have f1 : (t == 1048576) = false := beq_eq_false_iff_ne.2 ht
        go_wp2
        go_round
        case rel => exact ⟨k + 1, by omega, by go_num, by rw [E.out, if_neg ht]; go_num⟩
        case measure => simp [intOf]; omega
    · obtain rfl : k = T.length := by omega
      rw [List.take_length] at *
      go_wp2
      go_ret
      exact ⟨rfl, rfl⟩
theorem rFirst_new (x y : Int) (T : TypeId) (w : World) : Calls Tryz.prog 28 #[.slice (some ⟨w.heap.size, 0, none⟩) 2 2] (w.alloc (.cells #[.int .i64 x, .int .i64 y] T)) fun e w' => e = .returned (.int .i64 (fsI x y)) ∧ Below w.heap.size w w' := by
  have r := heap_alloc_new w (.cells #[.int .i64 x, .int .i64 y] T)
  have c := row_cellA r
  refine (rFirst_any x y w.heap.size _ (c 0) (c 1)).mono ?_
  rintro e w' ⟨h, hb⟩
  exact ⟨h, ((Below.refl _ _).alloc (Nat.le_refl _) _).trans (hb.mono (by simp))⟩
set_option maxHeartbeats 1600000 in
set_option maxRecDepth 100000 in
theorem rMayTri_lo (off : Int) (h1 : off < -64800) (d : Bool) (ab : List UInt8) (ha : ab.length ≤ 9223372036854775807) (w : World) : Calls Tryz.prog 15 #[.agg #[.int .i64 off, .bool d, .string (bs ab)]] w fun e w' => e = .returned (.int .i64 (triE off ab)) ∧ Below w.heap.size w w' := by
  have H1 := Lib.hid (fun w => grow_of2 (rAbbr_all ab ha w))
  have E : Hid (triE off ab = fsI (abbE ab) 8) := Lib.hid (by unfold triE; rw [if_pos (Or.inl h1)])
  have d1 : decide (off < -64800) = decide (off < -64800) := rfl
  have hcase : (decide (off < -64800) = true) ∨ (decide (off < -64800) = false ∧ decide (64800 < off) = true) ∨ (decide (off < -64800) = false ∧ decide (64800 < off) = false) := by simp; omega
  generalize triE off ab = R at *
  generalize abbE ab = X at *
  generalize bs ab = S at *
  rcases hcase with e1 | ⟨e1, e2⟩ | ⟨e1, e2⟩
  all_goals first
    | (exfalso; simp at *; omega)
    | (go_enter Tryz.func15, Tryz.ntmps15
       go_wp2_with fail
       refine (H1.out _).mono ?_
       rintro e w1 ⟨rfl, hb1⟩
       replace hb1 := Lib.hid (((Below.refl w.heap.size w).alloc (Nat.le_refl _) _).trans (hb1.mono (by simp)))
       go_simp
       go_wp2_with fail
       refine (rFirst_new _ _ _ _).mono ?_
       rintro e w2 ⟨rfl, hb2⟩
       replace hb2 := Lib.hid hb2
       go_simp
       go_wp2
       go_ret
       exact ⟨by rw [E.out]; try rfl, hb1.out.trans (hb2.out.mono hb1.out.size)⟩)
set_option maxHeartbeats 1600000 in
set_option maxRecDepth 100000 in
theorem rMayTri_hi (off : Int) (h1 : 64800 < off) (d : Bool) (ab : List UInt8) (ha : ab.length ≤ 9223372036854775807) (w : World) : Calls Tryz.prog 15 #[.agg #[.int .i64 off, .bool d, .string (bs ab)]] w fun e w' => e = .returned (.int .i64 (triE off ab)) ∧ Below w.heap.size w w' := by
  have H1 := Lib.hid (fun w => grow_of2 (rAbbr_all ab ha w))
  have E : Hid (triE off ab = fsI (abbE ab) 8) := Lib.hid (by unfold triE; rw [if_pos (Or.inr h1)])
  have d1 : decide (off < -64800) = decide (off < -64800) := rfl
  have hcase : (decide (off < -64800) = true) ∨ (decide (off < -64800) = false ∧ decide (64800 < off) = true) ∨ (decide (off < -64800) = false ∧ decide (64800 < off) = false) := by simp; omega
  generalize triE off ab = R at *
  generalize abbE ab = X at *
  generalize bs ab = S at *
  rcases hcase with e1 | ⟨e1, e2⟩ | ⟨e1, e2⟩
  all_goals first
    | (exfalso; simp at *; omega)
    | (go_enter Tryz.func15, Tryz.ntmps15
       go_wp2_with fail
       refine (H1.out _).mono ?_
       rintro e w1 ⟨rfl, hb1⟩
       replace hb1 := Lib.hid (((Below.refl w.heap.size w).alloc (Nat.le_refl _) _).trans (hb1.mono (by simp)))
       go_simp
       go_wp2_with fail
       refine (rFirst_new _ _ _ _).mono ?_
       rintro e w2 ⟨rfl, hb2⟩
       replace hb2 := Lib.hid hb2
       go_simp
       go_wp2
       go_ret
       exact ⟨by rw [E.out]; try rfl, hb1.out.trans (hb2.out.mono hb1.out.size)⟩)
set_option maxHeartbeats 1600000 in
set_option maxRecDepth 100000 in
theorem rMayTri_in (off : Int) (h1 : ¬ (off < -64800 ∨ 64800 < off)) (d : Bool) (ab : List UInt8) (ha : ab.length ≤ 9223372036854775807) (w : World) : Calls Tryz.prog 15 #[.agg #[.int .i64 off, .bool d, .string (bs ab)]] w fun e w' => e = .returned (.int .i64 (triE off ab)) ∧ Below w.heap.size w w' := by
  have H1 := Lib.hid (fun w => grow_of2 (rAbbr_all ab ha w))
  have E : Hid (triE off ab = fsI (abbE ab) 0) := Lib.hid (by unfold triE; rw [if_neg h1])
  have d1 : decide (off < -64800) = decide (off < -64800) := rfl
  have hcase : (decide (off < -64800) = true) ∨ (decide (off < -64800) = false ∧ decide (64800 < off) = true) ∨ (decide (off < -64800) = false ∧ decide (64800 < off) = false) := by simp; omega
  generalize triE off ab = R at *
  generalize abbE ab = X at *
  generalize bs ab = S at *
  rcases hcase with e1 | ⟨e1, e2⟩ | ⟨e1, e2⟩
  all_goals first
    | (exfalso; simp at *; omega)
    | (go_enter Tryz.func15, Tryz.ntmps15
       go_wp2_with fail
       refine (H1.out _).mono ?_
       rintro e w1 ⟨rfl, hb1⟩
       replace hb1 := Lib.hid (((Below.refl w.heap.size w).alloc (Nat.le_refl _) _).trans (hb1.mono (by simp)))
       go_simp
       go_wp2_with fail
       refine (rFirst_new _ _ _ _).mono ?_
       rintro e w2 ⟨rfl, hb2⟩
       replace hb2 := Lib.hid hb2
       go_simp
       go_wp2
       go_ret
       exact ⟨by rw [E.out]; try rfl, hb1.out.trans (hb2.out.mono hb1.out.size)⟩)
theorem rMayTri_any (off : Int) (d : Bool) (ab : List UInt8) (ha : ab.length ≤ 9223372036854775807) (w : World) : Calls Tryz.prog 15 #[.agg #[.int .i64 off, .bool d, .string (bs ab)]] w fun e w' => e = .returned (.int .i64 (triE off ab)) ∧ Below w.heap.size w w' := by
  by_cases h1 : off < -64800
  · exact rMayTri_lo off h1 d ab ha w
  · by_cases h2 : 64800 < off
    · exact rMayTri_hi off h2 d ab ha w
    · exact rMayTri_in off (by omega) d ab ha w
end Go.Proofs.YtacpcjdiljnlaaaGreatDoor
namespace Go.Proofs.YtacpcjdiljnlaaaGreatDoor
set_option linter.unusedVariables false
set_option linter.unusedSimpArgs false
open Go.ChangeShapes Go.WideShapes Go.ChangeAt Go.RowKit
def linA (l : Lin) : Value := .agg #[.int .i64 l.k, .int .i64 l.s, .int .i64 l.f, .int .i64 l.t, .int .i64 l.m, .int .i64 l.dk, .int .i64 l.dn, .int .i64 l.dw, .int .i64 l.ti, .int .i64 l.rd, .int .i64 l.off, .bool l.dst, .string (bs l.abb)]
def lin0 : Lin := ⟨0, 0, 0, 0, 0, 0, 0, 0, 0, 0, 0, false, []⟩
theorem linA0 : linA lin0 = .agg #[.int .i64 0, .int .i64 0, .int .i64 0, .int .i64 0, .int .i64 0, .int .i64 0, .int .i64 0, .int .i64 0, .int .i64 0, .int .i64 0, .int .i64 0, .bool false, .string ⟨#[]⟩] := by
  unfold linA lin0
  rw [bs_empty]
theorem five_of {ws : List (List UInt8)} (h : ws.length = 5) : ∃ a b c d e, ws = [a, b, c, d, e] := by
  match ws, h with
  | [a, b, c, d, e], _ => exact ⟨a, b, c, d, e, rfl⟩
set_option maxHeartbeats 6400000 in
set_option maxRecDepth 100000 in
theorem rLineAt_any (ws : List (List UInt8)) (hw : ∀ x ∈ ws, x.length ≤ 100000) (A : Option Addr) (c : Nat) (hc : ws.length ≤ c) (w : World) (hR : Rd w A (ws.map strV)) :
    Calls Tryz.prog 91 #[.slice A ws.length c] w fun e w' => ∃ l, e = .returned (.tuple #[linA l, .int .i64 (aliE ws)]) ∧ (aliE ws = 0 → l = aliL ws) ∧ Below w.heap.size w w' := by
  by_cases h5 : ws.length = 5
  · obtain ⟨x0, x1, x2, x3, x4, rfl⟩ := five_of h5
    obtain ⟨b, o, rfl, hb, hcell⟩ := hR.wrd (k := 0) (by rw [h5]; decide)
    have k1 : w.cell? ⟨b, o + 1, none⟩ = some (.string (bs x1)) := hcell 1 (by rw [h5]; decide)
    have k2 : w.cell? ⟨b, o + 2, none⟩ = some (.string (bs x2)) := hcell 2 (by rw [h5]; decide)
    have k3 : w.cell? ⟨b, o + 3, none⟩ = some (.string (bs x3)) := hcell 3 (by rw [h5]; decide)
    have k4 : w.cell? ⟨b, o + 4, none⟩ = some (.string (bs x4)) := hcell 4 (by rw [h5]; decide)
    have m1 := hw x1 (by simp)
    have m2 := hw x2 (by simp)
    have m4 := hw x4 (by simp)
    have hc5 : 5 ≤ c := hc
    have HM := Lib.hid (rMom_any x1 m1)
    have hE : aliE [x0, x1, x2, x3, x4] = if (momR x1).2 ≠ 0 then (momR x1).2 else (triR x2 x3 x4).2.2.2 := by unfold aliE; rw [if_neg (by simp)]; rfl
    have hL : aliL [x0, x1, x2, x3, x4] = ⟨1, (momR x1).1, 0, 0, 0, 0, 0, 0, 0, 0, (triR x2 x3 x4).1, (triR x2 x3 x4).2.1, (triR x2 x3 x4).2.2.1⟩ := rfl
    have HT : Hid (∀ W, Below w.heap.size w W → Calls Tryz.prog 125 #[.slice (some ⟨b, o + 2, none⟩) 3 (c - 2)] W fun e w' => e = .returned (.tuple #[.agg #[.int .i64 (triR x2 x3 x4).1, .bool (triR x2 x3 x4).2.1, .string (bs (triR x2 x3 x4).2.2.1)], .int .i64 (triR x2 x3 x4).2.2.2]) ∧ Below W.heap.size W w') := Lib.hid (fun W hW => by
      have g : ∀ j u, w.cell? ⟨b, j, none⟩ = some u → W.cell? ⟨b, j, none⟩ = some u := fun j u hu => (hW.cell (p := ⟨b, j, none⟩) hb).trans hu
      exact rTriple_any x2 x3 x4 m2 m4 _ 3 (c - 2) W b (o + 2) rfl (Nat.le_refl _) (by have := hW.size; omega) (g _ _ k2) (g _ _ k3) (g _ _ k4))
    rw [hE, hL]
    clear hcell hR hw hE hL m1 m2 m4
    generalize momR x1 = mm at *
    generalize triR x2 x3 x4 = tt at *
    obtain ⟨mv, me⟩ := mm
    obtain ⟨t0, t1, t2, te⟩ := tt
    simp only at HM HT ⊢
    by_cases hme : me = 0
    · subst hme
      rw [if_neg (by decide)]
      go_enter Tryz.func91, Tryz.ntmps91
      refine wp_shut ?_
      go_wp2_with fail
      
      refine (HM.out _).mono ?_
      rintro e V1 ⟨rfl, hb1⟩
      have B1 := nby hb1
      have Z1 := Lib.hid (row_call hb1 (heap_alloc_new _ _))
      clear hb1
      obtain ⟨Z1_0, Z1_1, Z1_2, Z1_3, Z1_4, Z1_5, Z1_6, Z1_7, Z1_8, Z1_9, Z1_10, Z1_11, Z1_12⟩ := qw13 Z1
      have zZ1 := lt_of_heap Z1.out
      go_simp
      go_wp2_with fail
      have HTv := Lib.hid (fun (_ : Unit) => HT.out V1 B1.out)
      refine (HTv.out ()).mono ?_
      rintro e V2 ⟨rfl, hb2⟩
      clear Z1_0 Z1_1 Z1_2 Z1_3 Z1_4 Z1_5 Z1_6 Z1_7 Z1_8 Z1_9 Z1_10 Z1_11 Z1_12 zZ1
      have B2 : Hid (Below w.heap.size w V2) := nbx B1 hb2
      replace Z1 := rcx hb2 Z1
      clear hb2
      obtain ⟨Z1_0, Z1_1, Z1_2, Z1_3, Z1_4, Z1_5, Z1_6, Z1_7, Z1_8, Z1_9, Z1_10, Z1_11, Z1_12⟩ := qw13 Z1
      have zZ1 := lt_of_heap Z1.out
      go_simp
      have rZ1 := setRow_heap (V2.alloc (Obj.cells #[Value.int .i64 t0, Value.bool t1, Value.string (bs t2)] 23)) (w.heap.size) _ #[Value.int .i64 1, Value.int .i64 mv, Value.int .i64 0, Value.int .i64 0, Value.int .i64 0, Value.int .i64 0, Value.int .i64 0, Value.int .i64 0, Value.int .i64 0, Value.int .i64 0, Value.int .i64 t0, Value.bool t1, Value.string (bs t2)] _ _ (row_alloc Z1.out _)
      obtain ⟨rZ1_0, rZ1_1, rZ1_2, rZ1_3, rZ1_4, rZ1_5, rZ1_6, rZ1_7, rZ1_8, rZ1_9, rZ1_10, rZ1_11, rZ1_12⟩ := qv13 rZ1
      go_wp2_with (refine wpList_store_row (by rfl) 49 _ _ (by rfl) (w.heap.size) #[Value.int .i64 1, Value.int .i64 mv, Value.int .i64 0, Value.int .i64 0, Value.int .i64 0, Value.int .i64 0, Value.int .i64 0, Value.int .i64 0, Value.int .i64 0, Value.int .i64 0, Value.int .i64 t0, Value.bool t1, Value.string (bs t2)] (by rfl) (by rfl) _ _ (row_alloc Z1.out _) (by kernel_rfl) (by rfl) (by simp [Value.oneCell']) ?_)
      refine shut_ret (v := .tuple #[.agg #[.int .i64 1, .int .i64 mv, .int .i64 0, .int .i64 0, .int .i64 0, .int .i64 0, .int .i64 0, .int .i64 0, .int .i64 0, .int .i64 0, .int .i64 t0, .bool t1, .string (bs t2)], .int .i64 te]) (by simp [results, Tryz.results91, go_sem, rZ1_0, rZ1_1, rZ1_2, rZ1_3, rZ1_4, rZ1_5, rZ1_6, rZ1_7, rZ1_8, rZ1_9, rZ1_10, rZ1_11, rZ1_12]) rfl ⟨⟨1, mv, 0, 0, 0, 0, 0, 0, 0, 0, t0, t1, t2⟩, rfl, fun _ => rfl, ?_⟩
      exact keepRow (B2.out.alloc (by have := B2.out.size; omega) _) (by omega) _
    · rw [if_pos hme]
      have f1 : (me != 0) = true := bne_iff_ne.2 hme
      clear HT
      go_enter Tryz.func91, Tryz.ntmps91
      refine wp_shut ?_
      go_wp2_with fail
      
      refine (HM.out _).mono ?_
      rintro e V1 ⟨rfl, hb1⟩
      have B1 := nby hb1
      have Z1 := Lib.hid (row_call hb1 (heap_alloc_new _ _))
      clear hb1
      obtain ⟨Z1_0, Z1_1, Z1_2, Z1_3, Z1_4, Z1_5, Z1_6, Z1_7, Z1_8, Z1_9, Z1_10, Z1_11, Z1_12⟩ := qw13 Z1
      have zZ1 := lt_of_heap Z1.out
      go_simp
      have rZ1 := setRow_heap V1 (w.heap.size) _ #[Value.int .i64 0, Value.int .i64 0, Value.int .i64 0, Value.int .i64 0, Value.int .i64 0, Value.int .i64 0, Value.int .i64 0, Value.int .i64 0, Value.int .i64 0, Value.int .i64 0, Value.int .i64 0, Value.bool false, Value.string ⟨#[]⟩] _ _ Z1.out
      obtain ⟨rZ1_0, rZ1_1, rZ1_2, rZ1_3, rZ1_4, rZ1_5, rZ1_6, rZ1_7, rZ1_8, rZ1_9, rZ1_10, rZ1_11, rZ1_12⟩ := qv13 rZ1
      go_wp2_with (refine wpList_store_row (by rfl) 49 _ _ (by rfl) (w.heap.size) #[Value.int .i64 0, Value.int .i64 0, Value.int .i64 0, Value.int .i64 0, Value.int .i64 0, Value.int .i64 0, Value.int .i64 0, Value.int .i64 0, Value.int .i64 0, Value.int .i64 0, Value.int .i64 0, Value.bool false, Value.string ⟨#[]⟩] (by rfl) (by rfl) _ _ Z1.out (by kernel_rfl) (by rfl) (by simp [Value.oneCell']) ?_)
      refine shut_ret (v := .tuple #[.agg #[.int .i64 0, .int .i64 0, .int .i64 0, .int .i64 0, .int .i64 0, .int .i64 0, .int .i64 0, .int .i64 0, .int .i64 0, .int .i64 0, .int .i64 0, .bool false, .string ⟨#[]⟩], .int .i64 me]) (by simp [results, Tryz.results91, go_sem, rZ1_0, rZ1_1, rZ1_2, rZ1_3, rZ1_4, rZ1_5, rZ1_6, rZ1_7, rZ1_8, rZ1_9, rZ1_10, rZ1_11, rZ1_12]) rfl ⟨lin0, by rw [linA0], fun e => absurd e hme, ?_⟩
      exact keepRow B1.out (by omega) _
  · have hE : aliE ws = 2 := if_pos h5
    rw [hE]
    have f1 : ((ws.length : Int) != 5) = true := bne_iff_ne.2 (by omega)
    clear hR hw hE
    generalize ws.length = N at *
    replace h5 := Lib.hid h5
    go_enter Tryz.func91, Tryz.ntmps91
    refine wp_shut ?_
    go_wp2
    refine shut_ret (v := .tuple #[.agg #[.int .i64 0, .int .i64 0, .int .i64 0, .int .i64 0, .int .i64 0, .int .i64 0, .int .i64 0, .int .i64 0, .int .i64 0, .int .i64 0, .int .i64 0, .bool false, .string ⟨#[]⟩], .int .i64 2]) (by simp [results, Tryz.results91, go_sem]) rfl ⟨lin0, by rw [linA0], fun e => absurd e (by decide), ?_⟩
    exact (Below.refl _ w).alloc (Nat.le_refl _) _
end Go.Proofs.YtacpcjdiljnlaaaGreatDoor
