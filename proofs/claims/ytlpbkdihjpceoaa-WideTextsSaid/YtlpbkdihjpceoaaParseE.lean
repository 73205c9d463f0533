/- Contract of package wide: a text as a number: where its form is one. -/
import Derived.Test.YtlpbkdihjpceoaaParseD
namespace Go.Proofs.Ytlpbkdihjpceoaa
set_option linter.unusedVariables false
open Go.ChangeShapes Go.WideShapes Go.ChangeAt Go.RowKit

theorem neg_hi (V : Nat) (h : V < 340282366920938463463374607431768211456) : neg (hi V) = decide (170141183460469231731687303715884105728 ≤ V) := by
  unfold neg hi; rw [decide_eq_decide]; omega
theorem pErr_of {t : List UInt8} (h1 : ¬ 64 < t.length) (h2 : badForm t = false) : pErr t = if outOf t then 8 else 0 := by
  unfold pErr; rw [if_neg h1, h2, if_neg (by decide)]

set_option maxHeartbeats 800000 in
set_option maxRecDepth 100000 in
theorem parse_pos (s : ByteArray) (hs : s.size ≤ 64) (hm : isNeg s.data.toList = false) (hp : plainB (body s.data.toList) = true) (w : World) :
    Calls Try.prog 10 #[.string s] w fun e w' => e = .returned (.tuple #[.agg #[.int .u64 (hi (pNum s.data.toList)), .int .u64 (lo (pNum s.data.toList))], .int .i64 (pErr s.data.toList)]) ∧ Below w.heap.size w w' := by
  have hE := pErr_of (t := s.data.toList) (by rw [← Lib.size_eq]; omega) (by unfold badForm; rw [hp, hm]; rfl)
  have hO : outOf s.data.toList = decide (170141183460469231731687303715884105728 ≤ val10 (body s.data.toList)) := by unfold outOf; rw [if_neg (by rw [hm]; decide)]
  have hN : pErr s.data.toList = 0 → pNum s.data.toList = val10 (body s.data.toList) := fun h => by unfold pNum; rw [if_pos h, if_neg (by rw [hm]; decide)]
  have hN2 : pErr s.data.toList = 8 → pNum s.data.toList = 0 := fun h => by unfold pNum; rw [if_neg (by rw [h]; decide)]
  have hlen : (body s.data.toList).length ≤ 64 := Nat.le_trans (body_len _) (by rw [← Lib.size_eq]; exact hs)
  have hC := cutPrefix45 s
  rw [hm] at hC
  have HC := Lib.hid hC
  have hB := plainOf (body s.data.toList) hlen
  rw [hp] at hB
  have HB := Lib.hid hB
  have hU := unsignedOf (body s.data.toList) hlen (plainB_all hp)
  have hVl := uvN_lt (body s.data.toList)
  have hG := negative_any (hi (uvN (body s.data.toList))) (lo (uvN (body s.data.toList))) (hi_U _)
  rw [neg_hi _ hVl] at hG
  have hvd : uvN (body s.data.toList) = if val10 (body s.data.toList) < 340282366920938463463374607431768211456 then val10 (body s.data.toList) else 0 := rfl
  have hfd : uvB (body s.data.toList) = decide (val10 (body s.data.toList) < 340282366920938463463374607431768211456) := rfl
  clear hB hp hlen hC hm
  generalize body s.data.toList = B at *
  generalize uvN B = V at *
  generalize uvB B = F at *
  generalize val10 B = n at *
  by_cases hn : n < 340282366920938463463374607431768211456
  · rw [if_pos hn] at hvd
    rw [decide_eq_true hn] at hfd
    subst hvd
    subst hfd
    have HU := Lib.hid hU
    by_cases hbig : 170141183460469231731687303715884105728 ≤ V
    · rw [decide_eq_true hbig] at hG hO
      rw [hO, if_pos rfl] at hE
      have E1 := Lib.hid hE
      have E2 := Lib.hid (hN2 hE)
      have HG := Lib.hid hG
      clear hE hO hN hN2 hU hG hVl hn hbig
      go_enter Try.func10, Try.ntmps10
      go_wp2_with fail
      refine (HC.out _).mono ?_
      rintro e w1 ⟨rfl, rfl⟩
      go_wp2_with fail
      refine (HB.out _).mono ?_
      rintro e w1 ⟨rfl, hb1⟩
      have r1 := row_call hb1 (heap_alloc_new w (.cells #[.int .u64 0, .int .u64 0] 24))
      have HB1 := Lib.hid (((Below.refl w.heap.size w).alloc (Nat.le_refl _) _).trans (hb1.mono (by simp)))
      have R1 := Lib.hid r1
      clear hb1 r1
      go_simp
      go_wp2_with fail
      refine (HU.out _).mono ?_
      rintro e w2 ⟨rfl, hb2⟩
      have R2 := Lib.hid (row_call hb2 R1.out)
      have HB2 := Lib.hid (HB1.out.trans (hb2.mono HB1.out.size))
      clear hb2
      go_simp
      go_wp2_with fail
      refine (HG.out _).mono ?_
      rintro e w3 ⟨rfl, hb3⟩
      have R3 := row_call hb3 (row_alloc R2.out _)
      have HB3 := Lib.hid ((HB2.out.alloc HB2.out.size _).trans (hb3.mono (by have := HB2.out.size; simp; omega)))
      have j0 : w3.cell? ⟨w.heap.size, 0, none⟩ = some (.int .u64 0) := cell_of_row _ _ _ _ _ _ R3
      have j1 : w3.cell? ⟨w.heap.size, 1, none⟩ = some (.int .u64 0) := cell_of_row _ _ _ _ _ _ R3
      have g0 : w3.frozen? ⟨w.heap.size, 0, none⟩ = false := by simp [World.frozen?, R3]
      have g1 : w3.frozen? ⟨w.heap.size, 1, none⟩ = false := by simp [World.frozen?, R3]
      clear hb3 R3
      go_simp
      go_wp2
      refine bodyPost_ret (v := .tuple #[.agg #[.int .u64 0, .int .u64 0], .int .i64 8]) (by simp [results, Try.results10, go_sem, j0, j1]) rfl ⟨by rw [E1.out, E2.out, hi_zero, lo_zero]; rfl, ?_⟩
      exact (HB3.out.setCell (Nat.le_refl _) _).setCell (Nat.le_refl _) _
    · rw [decide_eq_false hbig] at hG hO
      rw [hO, if_neg (by decide)] at hE
      have E1 := Lib.hid hE
      have E2 := Lib.hid (hN hE)
      have HG := Lib.hid hG
      clear hE hO hN hN2 hU hG hVl hn hbig
      go_enter Try.func10, Try.ntmps10
      go_wp2_with fail
      refine (HC.out _).mono ?_
      rintro e w1 ⟨rfl, rfl⟩
      go_wp2_with fail
      refine (HB.out _).mono ?_
      rintro e w1 ⟨rfl, hb1⟩
      have r1 := row_call hb1 (heap_alloc_new w (.cells #[.int .u64 0, .int .u64 0] 24))
      have HB1 := Lib.hid (((Below.refl w.heap.size w).alloc (Nat.le_refl _) _).trans (hb1.mono (by simp)))
      have R1 := Lib.hid r1
      clear hb1 r1
      go_simp
      go_wp2_with fail
      refine (HU.out _).mono ?_
      rintro e w2 ⟨rfl, hb2⟩
      have R2 := Lib.hid (row_call hb2 R1.out)
      have HB2 := Lib.hid (HB1.out.trans (hb2.mono HB1.out.size))
      clear hb2
      go_simp
      go_wp2_with fail
      refine (HG.out _).mono ?_
      rintro e w3 ⟨rfl, hb3⟩
      have R3 := row_call hb3 (row_alloc R2.out _)
      have S3 := row_call hb3 (heap_alloc_new w2 _)
      have HB3 := Lib.hid ((HB2.out.alloc HB2.out.size _).trans (hb3.mono (by have := HB2.out.size; simp; omega)))
      have j0 : w3.cell? ⟨w.heap.size, 0, none⟩ = some (.int .u64 0) := cell_of_row _ _ _ _ _ _ R3
      have j1 : w3.cell? ⟨w.heap.size, 1, none⟩ = some (.int .u64 0) := cell_of_row _ _ _ _ _ _ R3
      have g0 : w3.frozen? ⟨w.heap.size, 0, none⟩ = false := by simp [World.frozen?, R3]
      have g1 : w3.frozen? ⟨w.heap.size, 1, none⟩ = false := by simp [World.frozen?, R3]
      have k0 : w3.cell? ⟨w2.heap.size, 0, none⟩ = some (.int .u64 (hi V)) := cell_of_row _ _ _ _ _ _ S3
      have k1 : w3.cell? ⟨w2.heap.size, 1, none⟩ = some (.int .u64 (lo V)) := cell_of_row _ _ _ _ _ _ S3
      clear hb3 R3 S3
      go_simp
      go_wp2
      refine bodyPost_ret (v := .tuple #[.agg #[.int .u64 (hi V), .int .u64 (lo V)], .int .i64 0]) (by simp [results, Try.results10, go_sem, j0, j1]) rfl ⟨by rw [E1.out, E2.out]; rfl, ?_⟩
      exact (HB3.out.setCell (Nat.le_refl _) _).setCell (Nat.le_refl _) _
  · rw [if_neg hn] at hvd
    rw [decide_eq_false hn] at hfd
    subst hvd
    subst hfd
    have HU := Lib.hid hU
    rw [hO, if_pos (by rw [decide_eq_true_eq]; omega)] at hE
    have E1 := Lib.hid hE
    have E2 := Lib.hid (hN2 hE)
    clear hE hO hN hN2 hU hG hVl hn
    go_enter Try.func10, Try.ntmps10
    go_wp2_with fail
    refine (HC.out _).mono ?_
    rintro e w1 ⟨rfl, rfl⟩
    go_wp2_with fail
    refine (HB.out _).mono ?_
    rintro e w1 ⟨rfl, hb1⟩
    have r1 := row_call hb1 (heap_alloc_new w (.cells #[.int .u64 0, .int .u64 0] 24))
    have HB1 := Lib.hid (((Below.refl w.heap.size w).alloc (Nat.le_refl _) _).trans (hb1.mono (by simp)))
    have R1 := Lib.hid r1
    clear hb1 r1
    go_simp
    go_wp2_with fail
    refine (HU.out _).mono ?_
    rintro e w2 ⟨rfl, hb2⟩
    have R2 := row_call hb2 R1.out
    have HB2 := Lib.hid (HB1.out.trans (hb2.mono HB1.out.size))
    have j0 : w2.cell? ⟨w.heap.size, 0, none⟩ = some (.int .u64 0) := cell_of_row _ _ _ _ _ _ R2
    have j1 : w2.cell? ⟨w.heap.size, 1, none⟩ = some (.int .u64 0) := cell_of_row _ _ _ _ _ _ R2
    have g0 : w2.frozen? ⟨w.heap.size, 0, none⟩ = false := by simp [World.frozen?, R2]
    have g1 : w2.frozen? ⟨w.heap.size, 1, none⟩ = false := by simp [World.frozen?, R2]
    have hsz := lt_of_heap R2
    clear hb2 R2
    go_simp
    go_wp2
    refine bodyPost_ret (v := .tuple #[.agg #[.int .u64 0, .int .u64 0], .int .i64 8]) (by simp [results, Try.results10, go_sem, j0, j1, hsz]) rfl ⟨by rw [E1.out, E2.out, hi_zero, lo_zero]; rfl, ?_⟩
    have h2 := HB2.out
    have h3 := h2.size
    go_grown
end Go.Proofs.Ytlpbkdihjpceoaa
