/- Contract of package wide: a text as a number: below 0; all of it. -/
import Derived.Test.YtlpbkdihjpceoaaParseE
namespace Go.Proofs.Ytlpbkdihjpceoaa
set_option linter.unusedVariables false
open Go.ChangeShapes Go.WideShapes Go.ChangeAt Go.RowKit

theorem val10_pos {B : List UInt8} (hp : plainB B = true) (h0 : ¬ B = [48]) : 0 < val10 B := by
  have hall := plainB_all hp
  unfold plainB at hp
  cases B with
  | nil => simp at hp
  | cons c r =>
    have hc : isd c = true := by rw [List.all_eq_true] at hall; exact hall c (by simp)
    have hc2 : 48 ≤ c.toNat := by unfold isd at hc; rw [Bool.and_eq_true, decide_eq_true_eq] at hc; exact hc.1
    have hne : c ≠ 48 := by
      intro h
      subst h
      cases r with
      | nil => exact h0 rfl
      | cons d r => simp at hp
    have hne2 : c.toNat ≠ 48 := fun h => hne (UInt8.toNat_inj.1 h)
    have h1 := val10_mono [c] r
    have h2 : val10 [c] = c.toNat - 48 := by simp [val10]
    rw [h2] at h1
    have h3 : [c] ++ r = c :: r := rfl
    rw [h3] at h1
    omega

set_option maxHeartbeats 800000 in
set_option maxRecDepth 100000 in
theorem parse_neg (s : ByteArray) (hs : s.size ≤ 64) (hm : isNeg s.data.toList = true) (hp : plainB (body s.data.toList) = true) (h0 : ¬ body s.data.toList = [48]) (w : World) :
    Calls Try.prog 10 #[.string s] w fun e w' => e = .returned (.tuple #[.agg #[.int .u64 (hi (pNum s.data.toList)), .int .u64 (lo (pNum s.data.toList))], .int .i64 (pErr s.data.toList)]) ∧ Below w.heap.size w w' := by
  have hE := pErr_of (t := s.data.toList) (by rw [← Lib.size_eq]; omega) (by unfold badForm; rw [hp, hm, decide_eq_false h0]; rfl)
  have hO : outOf s.data.toList = decide (170141183460469231731687303715884105728 < val10 (body s.data.toList)) := by unfold outOf; rw [if_pos hm]
  have hN : pErr s.data.toList = 0 → pNum s.data.toList = 340282366920938463463374607431768211456 - val10 (body s.data.toList) := fun h => by unfold pNum; rw [if_pos h, if_pos hm]
  have hN2 : pErr s.data.toList = 8 → pNum s.data.toList = 0 := fun h => by unfold pNum; rw [if_neg (by rw [h]; decide)]
  have hlen : (body s.data.toList).length ≤ 64 := Nat.le_trans (body_len _) (by rw [← Lib.size_eq]; exact hs)
  have hC := cutPrefix45 s
  rw [hm] at hC
  have HC := Lib.hid hC
  have hB := plainOf (body s.data.toList) hlen
  rw [hp] at hB
  have HB := Lib.hid hB
  have hU := unsignedOf (body s.data.toList) hlen (plainB_all hp)
  have hVl := uvN_lt (body s.data.toList)
  have hpos := val10_pos hp h0
  have hng := neg_any (hi (uvN (body s.data.toList))) (lo (uvN (body s.data.toList))) (hi_U _) (lo_U _)
  rw [num_hl_of hVl] at hng
  have hvd : uvN (body s.data.toList) = if val10 (body s.data.toList) < 340282366920938463463374607431768211456 then val10 (body s.data.toList) else 0 := rfl
  have hfd : uvB (body s.data.toList) = decide (val10 (body s.data.toList) < 340282366920938463463374607431768211456) := rfl
  have z1 : (body s.data.toList == [48]) = false := by rw [beq_eq_false_iff_ne]; exact h0
  clear hB hp hlen hC hm
  generalize body s.data.toList = B at *
  generalize uvN B = V at *
  generalize uvB B = F at *
  generalize val10 B = n at *
  by_cases hn : n < 340282366920938463463374607431768211456
  · rw [if_pos hn] at hvd
    rw [decide_eq_true hn] at hfd
    subst hvd
    subst hfd
    have HU := Lib.hid hU
    have hG := negative_any (hi (340282366920938463463374607431768211456 - V)) (lo (340282366920938463463374607431768211456 - V)) (hi_U _)
    rw [neg_hi _ (by omega)] at hG
    obtain ⟨M, HM⟩ : ∃ M, Hid (340282366920938463463374607431768211456 - V = M) := ⟨_, rfl⟩
    rw [HM.out] at hG hng hN
    have HNG := Lib.hid hng
    by_cases hbig : 170141183460469231731687303715884105728 < V
    · rw [decide_eq_true hbig] at hO
      rw [show decide (170141183460469231731687303715884105728 ≤ M) = false by rw [decide_eq_false_iff_not, ← HM.out]; omega] at hG
      rw [hO, if_pos rfl] at hE
      have E1 := Lib.hid hE
      have E2 := Lib.hid (hN2 hE)
      have HG := Lib.hid hG
      clear hE hO hN hN2 hU hG hVl hn hbig hng hpos h0
      go_enter Try.func10, Try.ntmps10
      go_wp2_with fail
      refine (HC.out _).mono ?_
      rintro e w1 ⟨rfl, rfl⟩
      go_wp2_with fail
      refine (HB.out _).mono ?_
      rintro e w1 ⟨rfl, hb1⟩
      have r1 := row_call hb1 (heap_alloc_new w (.cells #[.int .u64 0, .int .u64 0] 24))
      have HB1 := Lib.hid (((Below.refl w.heap.size w).alloc (Nat.le_refl _) _).trans (hb1.mono (by simp)))
      have R1 := Lib.hid r1
      clear hb1 r1
      go_simp
      go_wp2_with fail
      refine (HU.out _).mono ?_
      rintro e w2 ⟨rfl, hb2⟩
      have R2 := Lib.hid (row_call hb2 R1.out)
      have HB2 := Lib.hid (HB1.out.trans (hb2.mono HB1.out.size))
      clear hb2
      go_simp
      go_wp2_with fail
      refine (HNG.out _).mono ?_
      rintro e w3 ⟨rfl, hb3⟩
      have R3 := Lib.hid (row_call hb3 (row_alloc R2.out _))
      have S3 := Lib.hid (row_call hb3 (heap_alloc_new w2 _))
      have HB3 := Lib.hid ((HB2.out.alloc HB2.out.size _).trans (hb3.mono (by have := HB2.out.size; simp; omega)))
      have hne := lt_of_heap R2.out
      have k0 : w3.cell? ⟨w2.heap.size, 0, none⟩ = some (.int .u64 (hi V)) := cell_of_row _ _ _ _ _ _ S3.out
      have k1 : w3.cell? ⟨w2.heap.size, 1, none⟩ = some (.int .u64 (lo V)) := cell_of_row _ _ _ _ _ _ S3.out
      have q0 : w3.frozen? ⟨w2.heap.size, 0, none⟩ = false := by simp [World.frozen?, S3.out]
      have q1 : w3.frozen? ⟨w2.heap.size, 1, none⟩ = false := by simp [World.frozen?, S3.out]
      have hne1 : ¬ (w2.heap.size = w.heap.size) := by omega
      have hne2 : ¬ (w.heap.size = w2.heap.size) := by omega
      clear hb3
      go_simp
      go_wp2_with fail
      refine (HG.out _).mono ?_
      rintro e w4 ⟨rfl, hb4⟩
      have R4 : w4.heap[w.heap.size]? = some (.cells #[.int .u64 0, .int .u64 0] 24 (0, 0)) := row_call hb4 (by rw [Below.heap_setCell _ _ _ _ (by show w.heap.size ≠ w2.heap.size; omega), Below.heap_setCell _ _ _ _ (by show w.heap.size ≠ w2.heap.size; omega)]; exact R3.out)
      have S4 := row_call hb4 (row_set S3.out _ _)
      have HB4 := Lib.hid (((HB3.out.setCell (by show w.heap.size ≤ w2.heap.size; omega) _).setCell (by show w.heap.size ≤ w2.heap.size; omega) _).trans (hb4.mono (by have := HB3.out.size; simp [World.setCell]; omega)))
      have j0 : w4.cell? ⟨w.heap.size, 0, none⟩ = some (.int .u64 0) := cell_of_row _ _ _ _ _ _ R4
      have j1 : w4.cell? ⟨w.heap.size, 1, none⟩ = some (.int .u64 0) := cell_of_row _ _ _ _ _ _ R4
      have g0 : w4.frozen? ⟨w.heap.size, 0, none⟩ = false := by simp [World.frozen?, R4]
      have g1 : w4.frozen? ⟨w.heap.size, 1, none⟩ = false := by simp [World.frozen?, R4]
      have p0 : w4.cell? ⟨w2.heap.size, 0, none⟩ = some (.int .u64 (hi M)) := cell_of_row _ _ _ _ _ _ S4
      have p1 : w4.cell? ⟨w2.heap.size, 1, none⟩ = some (.int .u64 (lo M)) := cell_of_row _ _ _ _ _ _ S4
      clear hb4 R4 S4 k0 k1 q0 q1
      go_simp
      go_wp2
      refine bodyPost_ret (v := .tuple #[.agg #[.int .u64 0, .int .u64 0], .int .i64 8]) (by simp [results, Try.results10, go_sem, j0, j1]) rfl ⟨by rw [E1.out, E2.out, hi_zero, lo_zero]; rfl, ?_⟩
      exact (HB4.out.setCell (Nat.le_refl _) _).setCell (Nat.le_refl _) _
    · rw [decide_eq_false hbig] at hO
      rw [show decide (170141183460469231731687303715884105728 ≤ M) = true by rw [decide_eq_true_eq, ← HM.out]; omega] at hG
      rw [hO, if_neg (by decide)] at hE
      have E1 := Lib.hid hE
      have E2 := Lib.hid (hN hE)
      have HG := Lib.hid hG
      clear hE hO hN hN2 hU hG hVl hn hbig hng hpos h0
      go_enter Try.func10, Try.ntmps10
      go_wp2_with fail
      refine (HC.out _).mono ?_
      rintro e w1 ⟨rfl, rfl⟩
      go_wp2_with fail
      refine (HB.out _).mono ?_
      rintro e w1 ⟨rfl, hb1⟩
      have r1 := row_call hb1 (heap_alloc_new w (.cells #[.int .u64 0, .int .u64 0] 24))
      have HB1 := Lib.hid (((Below.refl w.heap.size w).alloc (Nat.le_refl _) _).trans (hb1.mono (by simp)))
      have R1 := Lib.hid r1
      clear hb1 r1
      go_simp
      go_wp2_with fail
      refine (HU.out _).mono ?_
      rintro e w2 ⟨rfl, hb2⟩
      have R2 := Lib.hid (row_call hb2 R1.out)
      have HB2 := Lib.hid (HB1.out.trans (hb2.mono HB1.out.size))
      clear hb2
      go_simp
      go_wp2_with fail
      refine (HNG.out _).mono ?_
      rintro e w3 ⟨rfl, hb3⟩
      have R3 := Lib.hid (row_call hb3 (row_alloc R2.out _))
      have S3 := Lib.hid (row_call hb3 (heap_alloc_new w2 _))
      have HB3 := Lib.hid ((HB2.out.alloc HB2.out.size _).trans (hb3.mono (by have := HB2.out.size; simp; omega)))
      have hne := lt_of_heap R2.out
      have k0 : w3.cell? ⟨w2.heap.size, 0, none⟩ = some (.int .u64 (hi V)) := cell_of_row _ _ _ _ _ _ S3.out
      have k1 : w3.cell? ⟨w2.heap.size, 1, none⟩ = some (.int .u64 (lo V)) := cell_of_row _ _ _ _ _ _ S3.out
      have q0 : w3.frozen? ⟨w2.heap.size, 0, none⟩ = false := by simp [World.frozen?, S3.out]
      have q1 : w3.frozen? ⟨w2.heap.size, 1, none⟩ = false := by simp [World.frozen?, S3.out]
      have hne1 : ¬ (w2.heap.size = w.heap.size) := by omega
      have hne2 : ¬ (w.heap.size = w2.heap.size) := by omega
      clear hb3
      go_simp
      go_wp2_with fail
      refine (HG.out _).mono ?_
      rintro e w4 ⟨rfl, hb4⟩
      have R4 : w4.heap[w.heap.size]? = some (.cells #[.int .u64 0, .int .u64 0] 24 (0, 0)) := row_call hb4 (by rw [Below.heap_setCell _ _ _ _ (by show w.heap.size ≠ w2.heap.size; omega), Below.heap_setCell _ _ _ _ (by show w.heap.size ≠ w2.heap.size; omega)]; exact R3.out)
      have S4 := row_call hb4 (row_set S3.out _ _)
      have HB4 := Lib.hid (((HB3.out.setCell (by show w.heap.size ≤ w2.heap.size; omega) _).setCell (by show w.heap.size ≤ w2.heap.size; omega) _).trans (hb4.mono (by have := HB3.out.size; simp [World.setCell]; omega)))
      have j0 : w4.cell? ⟨w.heap.size, 0, none⟩ = some (.int .u64 0) := cell_of_row _ _ _ _ _ _ R4
      have j1 : w4.cell? ⟨w.heap.size, 1, none⟩ = some (.int .u64 0) := cell_of_row _ _ _ _ _ _ R4
      have g0 : w4.frozen? ⟨w.heap.size, 0, none⟩ = false := by simp [World.frozen?, R4]
      have g1 : w4.frozen? ⟨w.heap.size, 1, none⟩ = false := by simp [World.frozen?, R4]
      have p0 : w4.cell? ⟨w2.heap.size, 0, none⟩ = some (.int .u64 (hi M)) := cell_of_row _ _ _ _ _ _ S4
      have p1 : w4.cell? ⟨w2.heap.size, 1, none⟩ = some (.int .u64 (lo M)) := cell_of_row _ _ _ _ _ _ S4
      clear hb4 R4 S4 k0 k1 q0 q1
      go_simp
      go_wp2
      refine bodyPost_ret (v := .tuple #[.agg #[.int .u64 (hi M), .int .u64 (lo M)], .int .i64 0]) (by simp [results, Try.results10, go_sem, j0, j1]) rfl ⟨by rw [E1.out, E2.out]; rfl, ?_⟩
      exact (HB4.out.setCell (Nat.le_refl _) _).setCell (Nat.le_refl _) _
  · rw [if_neg hn] at hvd
    rw [decide_eq_false hn] at hfd
    subst hvd
    subst hfd
    have HU := Lib.hid hU
    rw [Nat.sub_zero] at hng
    have HNG := Lib.hid hng
    rw [hO, if_pos (by rw [decide_eq_true_eq]; omega)] at hE
    have E1 := Lib.hid hE
    have E2 := Lib.hid (hN2 hE)
    clear hE hO hN hN2 hU hVl hn hng hpos h0
    go_enter Try.func10, Try.ntmps10
    go_wp2_with fail
    refine (HC.out _).mono ?_
    rintro e w1 ⟨rfl, rfl⟩
    go_wp2_with fail
    refine (HB.out _).mono ?_
    rintro e w1 ⟨rfl, hb1⟩
    have r1 := row_call hb1 (heap_alloc_new w (.cells #[.int .u64 0, .int .u64 0] 24))
    have HB1 := Lib.hid (((Below.refl w.heap.size w).alloc (Nat.le_refl _) _).trans (hb1.mono (by simp)))
    have R1 := Lib.hid r1
    clear hb1 r1
    go_simp
    go_wp2_with fail
    refine (HU.out _).mono ?_
    rintro e w2 ⟨rfl, hb2⟩
    have R2 := Lib.hid (row_call hb2 R1.out)
    have HB2 := Lib.hid (HB1.out.trans (hb2.mono HB1.out.size))
    clear hb2
    go_simp
    go_wp2_with fail
    refine (HNG.out _).mono ?_
    rintro e w3 ⟨rfl, hb3⟩
    have R3 := Lib.hid (row_call hb3 (row_alloc R2.out _))
    have S3 := Lib.hid (row_call hb3 (heap_alloc_new w2 _))
    have HB3 := Lib.hid ((HB2.out.alloc HB2.out.size _).trans (hb3.mono (by have := HB2.out.size; simp; omega)))
    have hne := lt_of_heap R2.out
    have k0 : w3.cell? ⟨w2.heap.size, 0, none⟩ = some (.int .u64 (hi 0)) := cell_of_row _ _ _ _ _ _ S3.out
    have k1 : w3.cell? ⟨w2.heap.size, 1, none⟩ = some (.int .u64 (lo 0)) := cell_of_row _ _ _ _ _ _ S3.out
    have q0 : w3.frozen? ⟨w2.heap.size, 0, none⟩ = false := by simp [World.frozen?, S3.out]
    have q1 : w3.frozen? ⟨w2.heap.size, 1, none⟩ = false := by simp [World.frozen?, S3.out]
    have hne1 : ¬ (w2.heap.size = w.heap.size) := by omega
    have hne2 : ¬ (w.heap.size = w2.heap.size) := by omega
    clear hb3
    have j0 : w3.cell? ⟨w.heap.size, 0, none⟩ = some (.int .u64 0) := cell_of_row _ _ _ _ _ _ R3.out
    have j1 : w3.cell? ⟨w.heap.size, 1, none⟩ = some (.int .u64 0) := cell_of_row _ _ _ _ _ _ R3.out
    have g0 : w3.frozen? ⟨w.heap.size, 0, none⟩ = false := by simp [World.frozen?, R3.out]
    have g1 : w3.frozen? ⟨w.heap.size, 1, none⟩ = false := by simp [World.frozen?, R3.out]
    go_simp
    go_wp2
    refine bodyPost_ret (v := .tuple #[.agg #[.int .u64 0, .int .u64 0], .int .i64 8]) (by simp [results, Try.results10, go_sem, j0, j1]) rfl ⟨by rw [E1.out, E2.out, hi_zero, lo_zero]; rfl, ?_⟩
    exact (((HB3.out.setCell (by show w.heap.size ≤ w2.heap.size; omega) _).setCell (by show w.heap.size ≤ w2.heap.size; omega) _).setCell (Nat.le_refl _) _).setCell (Nat.le_refl _) _

theorem parse_any (s : ByteArray) (w : World) :
    Calls Try.prog 10 #[.string s] w fun e w' => e = .returned (.tuple #[.agg #[.int .u64 (hi (pNum s.data.toList)), .int .u64 (lo (pNum s.data.toList))], .int .i64 (pErr s.data.toList)]) ∧ Below w.heap.size w w' := by
  by_cases h1 : 64 < s.size
  · exact parse_long s h1 w
  · cases hp : plainB (body s.data.toList)
    · exact parse_form1 s (by omega) hp w
    · cases hm : isNeg s.data.toList
      · exact parse_pos s (by omega) hm hp w
      · by_cases h0 : body s.data.toList = [48]
        · exact parse_form2 s (by omega) hm h0 w
        · exact parse_neg s (by omega) hm hp h0 w
end Go.Proofs.Ytlpbkdihjpceoaa
