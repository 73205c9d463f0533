/- Several texts in one: LexP, LexL, LexO, LexF. -/
import Derived.Test.YthanlgdbnhcilaaZLex1
import Derived.Test.YthanlgdbnhcilaaShelf
import Derived.Test.YthanlgdbnhcilaaZBldA1
import Derived.Test.YthanlgdbnhcilaaZOpenS1
namespace Go.Proofs.Ythanlgdbnhcilaa
set_option linter.unusedVariables false
set_option linter.unusedSimpArgs false
open Go.ChangeShapes Go.WideShapes Go.ChangeAt Go.RowKit
theorem lex_new (s : ByteArray) (w w1 : World) (hsz : w1.heap.size = w.heap.size + 1) (hb : Below w.heap.size w w1) (hr : w1.heap[w.heap.size]? = some (.cells #[.slice none 0 0, .slice none 0 0, .int .i64 1, .bool false, .bool false] 38 (0, 0))) :
    LxG w.heap.size w (w1.iter s 0) w.heap.size (w.heap.size + 1) s 0 rg0 := by
  refine ⟨.slice none 0 0, .slice none 0 0, ?_, ?_, World.ownsRow_nil _ _ _ _, World.ownsRow_nil _ _ _ _, Nat.le_refl _, by omega, hb.alloc (by omega) _, by simp [World.iter]; omega⟩
  · exact (heap_alloc_old w1 _ (by omega)).trans hr
  · rw [← hsz]; exact World.iter_heap w1 s 0
set_option maxHeartbeats 1600000 in
theorem pLex_any (L : List UInt8) (w : World) : Calls Try.prog 6 #[.string (bs L)] w (RetTok (lexT L) (lexE L) w) := by
  have hS := bs_size L
  by_cases hbig : 4096 < L.length
  · have E1 := Lib.hid (lex_big hbig).1
    have E2 := Lib.hid (lex_big hbig).2
    go_enter Try.func6, Try.ntmps6
    go_wp2
    go_ret2
    rw [E1.out, E2.out]
    exact ⟨_, rfl, World.ownsRow_nil _ _ _ _, Below.refl _ _⟩
  · go_enter Try.func6, Try.ntmps6
    go_wp2
    go_loopw [] (fun wr => ∃ (pos k : Nat) (R : Rg), pos ≤ L.length ∧ LxG w.heap.size w wr w.heap.size (w.heap.size + 1) (bs L) pos R ∧ LxZ R (lxF (L.take pos)) (badB (L.take pos)) ∧ R.out.length ≤ 2 * pos ∧ R.cur.length ≤ pos ∧ R.ln = (k : Int) ∧ k ≤ pos + 1) (fun wr => L.length - wr.iterPos (w.heap.size + 1))
    case atStart =>
      refine ⟨0, 1, rg0, by omega, ?_, by simpa [lxF, badB] using LxZ.start, by simp [rg0], by simp [rg0], rfl, by omega⟩
      refine lex_new _ _ _ ?_ ?_ ?_
      · simp
      · exact (Below.refl _ w).alloc (Nat.le_refl _) _
      · exact heap_alloc_new w _
    case round =>
      obtain ⟨pos, k, R, hpos, ⟨v, u, hG⟩, hZ, ho, hcu, hln, hk⟩ := hrel
      have hit := hG.it
      by_cases hp : pos < L.length
      · have hnx : ∀ ty, (Instr.next (.pointer (some ⟨w.heap.size + 1, 0, none⟩)) true ty).run Try.prog wr = _ := fun ty => Lib.run_next_any_at wr (w.heap.size + 1) (bs L) pos ty hit (by rw [hS]; exact hp)
        obtain ⟨hZ2, hd1, hd2⟩ := hZ.rune hp
        have hN : LxG w.heap.size w (wr.iterAt (w.heap.size + 1) (bs L) (pos + (Utf8.decode (bs L) pos).2)) w.heap.size (w.heap.size + 1) (bs L) (pos + (Utf8.decode (bs L) pos).2) R := ⟨v, u, hG.next _⟩
        generalize (Utf8.decode (bs L) pos).2 = d at *
        generalize hr : ((Utf8.decode (bs L) pos).1 : Int) = r at *
        have HT := Lib.hid (pTake_any r k _ hln hN (by omega) (by omega) (by omega))
        obtain ⟨t1, t2, t3, t4⟩ := tk_len R r
        replace hZ2 := Lib.hid hZ2
        replace hit := Lib.hid hit
        clear hG hN hZ
        go_wp2_with fail
        refine HT.out.mono ?_
        rintro e w2 ⟨rfl, h2⟩
        have hit2 : Hid (w2.heap[w.heap.size + 1]? = some (.stringIter (bs L) (pos + d))) := by
          obtain ⟨v2, u2, h3⟩ := h2
          exact Lib.hid h3.it
        replace h2 := Lib.hid h2
        clear HT
        go_wp2
        go_roundw
        case rel => exact ⟨pos + d, (rgTk R r).ln.toNat, rgTk R r, hd2, h2.out, hZ2.out, by omega, by omega, by omega, by omega⟩
        case measure =>
          simp only [World.iterPos, hit2.out, hit.out]
          omega
      · obtain rfl : pos = L.length := by omega
        have hnx : ∀ ty, (Instr.next (.pointer (some ⟨w.heap.size + 1, 0, none⟩)) true ty).run Try.prog wr = _ := fun ty => Lib.run_next_end_at wr (w.heap.size + 1) (bs L) L.length ty hit (by rw [hS]; exact hp)
        rw [List.take_length] at hZ
        obtain ⟨z1, z2, z3⟩ := hZ.fin
        rw [hln] at hG
        have HL := Lib.hid (pLexLine_any k wr hG (by omega) (by omega))
        have hoN : (rgNl R).out = enT (wdT R.out R.cur k) k := by rw [← hln]; rfl
        rw [hoN] at z1 z3
        generalize enT (wdT R.out R.cur k) k = T at *
        have z2' : R.odd = badB L := z2
        rw [z2'] at HL
        clear hG hZ z2 z2' hoN hit ho hcu
        go_wp2_with fail
        refine HL.out.mono ?_
        rintro e w2 ⟨rfl, v2, u2, h2⟩
        clear HL
        obtain ⟨A3, c3, g3, rfl, -⟩ := own_form h2.ov
        have q0 : w2.cell? ⟨w.heap.size, 0, none⟩ = some (.slice A3 T.length c3) := by rw [Lib.cell_of_heap h2.row]; rfl
        have q4 : w2.cell? ⟨w.heap.size, 4, none⟩ = some (.bool (badB L)) := by rw [Lib.cell_of_heap h2.row]; rfl
        have hown := Lib.hid h2.ov
        have hbel := Lib.hid h2.bel
        clear h2
        by_cases h1024 : 1024 < (tokL L).length
        · have E1 := Lib.hid (lex_many hbig h1024).1
          have E2 := Lib.hid (lex_many hbig h1024).2
          replace z3 := Lib.hid z3
          generalize tokL L = TK at *
          have z1' : 1024 < T.length := by omega
          replace z1 := Lib.hid z1
          clear h1024
          go_wp2
          go_ret2
          rw [E1.out, E2.out]
          exact ⟨_, rfl, World.ownsRow_nil _ _ _ _, hbel.out⟩
        · cases hbad : badB L
          · have E1 := Lib.hid (lex_ok hbig h1024 hbad).1
            have E2 := Lib.hid (lex_ok hbig h1024 hbad).2
            have z4 := Lib.hid (z3 hbad)
            rw [hbad] at q4
            clear z3
            generalize tokL L = TK at *
            have z1' : ¬ 1024 < T.length := by omega
            replace z1 := Lib.hid z1
            replace hbad := Lib.hid hbad
            clear h1024
            go_wp2
            go_ret2
            rw [E1.out, E2.out, ← z4.out]
            exact ⟨_, rfl, hown.out, hbel.out⟩
          · have E1 := Lib.hid (lex_bad hbig h1024 hbad).1
            have E2 := Lib.hid (lex_bad hbig h1024 hbad).2
            rw [hbad] at q4
            clear z3
            generalize tokL L = TK at *
            have z1' : ¬ 1024 < T.length := by omega
            replace z1 := Lib.hid z1
            replace hbad := Lib.hid hbad
            clear h1024
            go_wp2
            go_ret2
            rw [E1.out, E2.out]
            exact ⟨_, rfl, World.ownsRow_nil _ _ _ _, hbel.out⟩
def shP (T : List Tok) : Nat → List UInt8
  | 0 => []
  | k + 1 => shW T k ++ (T.getD k ([], 0)).1
theorem shW_P (T : List Tok) (k : Nat) : shW T (k + 1) = shP T (k + 1) ++ (if gapB T k = true then [32] else []) := by
  rw [shW_succ]
  unfold pieceT shP
  rw [List.append_assoc]
theorem showT_P (T : List Tok) : showT T = shP T T.length := by
  unfold showT
  cases h : T.length with
  | zero => rfl
  | succ k =>
    have hg : gapB T k = false := by
      unfold gapB
      rw [h, decide_eq_false (by omega)]
      simp
    rw [shW_P, if_neg (by rw [hg]; decide), List.append_nil]
theorem shP_at (T : List Tok) (k : Nat) (h : k < T.length) : shP T (k + 1) = shW T k ++ T[k].1 := by
  show shW T k ++ (T.getD k ([], 0)).1 = _
  rw [tokD_at T k h]
theorem shP_plain (T : List Tok) (q : Nat) (h : q + 1 < T.length) (hg : T[q].1 = [10] ∨ T[q + 1].1 = [10]) : shW T (q + 1) = shP T (q + 1) := by
  have e : gapB T q = false := by
    unfold gapB
    rw [tokD_at T q (by omega), tokD_at T (q + 1) h]
    rcases hg with hg | hg <;> simp [hg]
  rw [shW_P, if_neg (by rw [e]; decide), List.append_nil]
theorem shP_gap (T : List Tok) (q : Nat) (h : q + 1 < T.length) (h1 : T[q].1 ≠ [10]) (h2 : T[q + 1].1 ≠ [10]) : shW T (q + 1) = shP T (q + 1) ++ [32] := by
  have e : gapB T q = true := by
    unfold gapB
    rw [tokD_at T q (by omega), tokD_at T (q + 1) h]
    simp [h1, h2, h]
  rw [shW_P, if_pos e]
theorem strCells_bs (l : List UInt8) : Lib.strCells (bs l) = Lib.byteCells l := by rw [Lib.strCells_eq, bs_toList]
theorem bs_arr (l : List UInt8) : bs l = ⟨l.toArray⟩ := by unfold bs; rfl
set_option maxHeartbeats 1600000 in
theorem pShow_any (T : List Tok) (hs : szT T ≤ 1000000000) (A : Option Addr) (c : Nat) (w : World) (hR : Rd w A (tokVs T)) : Calls Try.prog 10 #[.slice A T.length c] w fun e w' => e = .returned (.string (bs (showT T))) ∧ Below w.heap.size w w' := by
  have HR := Lib.hid hR
  have hlenT := szT_ge T
  clear hR
  go_enter Try.func10, Try.ntmps10
  go_wp2
  go_loopw [8] (fun i wr => ∃ k : Nat, k ≤ T.length ∧ i = .int .i64 (k : Int) ∧ Lib.IsBuilderF 45 5 w.heap.size w.heap.size (Lib.byteCells (shP T k)) wr ∧ Below w.heap.size w wr ∧ w.heap.size < wr.heap.size) (fun i _ => T.length - (intOf i).toNat)
  case atStart =>
    refine ⟨0, by omega, rfl, Lib.IsBuilderF.of (Lib.fresh_isBuilder _ _ w), (Below.refl _ w).alloc (Nat.le_refl _) _, by simp⟩
  case round =>
    obtain ⟨k, hk, rfl, hI, hbw, hsz⟩ := hrel
    by_cases hlt : k < T.length
    · obtain ⟨b, o, rfl, hb, hc⟩ := HR.out.tok hlt
      have hbr : b < wr.heap.size := by have := hbw.size; omega
      have hcq : ∀ j (hj : j < T.length), wr.cell? ⟨b, o + j * 2, none⟩ = some (.string (bs T[j].1)) ∧ wr.cell? ⟨b, o + j * 2 + 1, none⟩ = some (.int .i64 T[j].2) := fun j hj =>
        ⟨(World.cell?_of_block (a := ⟨b, o + j * 2, none⟩) (hbw.block b hb)).trans (hc j hj).1, (World.cell?_of_block (a := ⟨b, o + j * 2 + 1, none⟩) (hbw.block b hb)).trans (hc j hj).2⟩
      have hc0 := (hcq k hlt).1
      have hc1 := (hcq k hlt).2
      have hl := sh_bd T k hlt hs
      have hP := shP_at T k hlt
      clear hc
      replace hcq := Lib.hid hcq
      by_cases h0 : 0 < k
      · obtain ⟨q, hq⟩ : ∃ q, k = q + 1 := ⟨k - 1, by omega⟩
        have hcp := (hcq.out q (by omega)).1
        have hpl : Hid ((T[q]'(by omega)).1 = [10] ∨ T[k].1 = [10] → shW T k = shP T k) := Lib.hid (by subst hq; exact shP_plain T q hlt)
        have hgp : Hid ((T[q]'(by omega)).1 ≠ [10] → T[k].1 ≠ [10] → shW T k = shP T k ++ [32]) := Lib.hid (by subst hq; exact shP_gap T q hlt)
        have hcx : ∀ x, (wr.alloc x).cell? ⟨b, o + q * 2, none⟩ = some (.string (bs (T[q]'(by omega)).1)) := fun x => (World.cell?_of_block (a := ⟨b, o + q * 2, none⟩) (heap_alloc_old wr x hbr)).trans hcp
        have hx : IntKind.i64.wrap ((k : Int) - 1) = (q : Int) := (wrap_small _ (by omega) (by omega)).trans (by omega)
        have hq1 : (0 : Int) ≤ (q : Int) ∧ (q : Int) < (T.length : Int) := by omega
        have hd : decide ((0 : Int) < (k : Int)) = true := decide_eq_true (by omega)
        replace hP := Lib.hid hP
        generalize T[k].2 = m at *
        generalize T[k].1 = t at *
        generalize (T[q]'(by omega)).1 = tp at *
        have l1 := bs_list t
        have l2 := bs_list tp
        clear hcp
        replace hq := Lib.hid hq
        by_cases h10 : t = [10]
        · have e1 : (t == [10]) = true := by rw [h10]; rfl
          have E := Lib.hid (hpl.out (Or.inr h10))
          replace h10 := Lib.hid h10
          have HS := Lib.hid (bldStr_any w.heap.size w.heap.size _ (bs t) (wr.alloc (.cells #[.string (bs t), .int .i64 m] 32)) (hI.alloc _) (by rw [Lib.byteCells_length, bs_size, ← E.out]; omega) (by simp; omega))
          rw [strCells_bs, ← Lib.byteCells_append, ← E.out, ← hP.out] at HS
          have hbx := Lib.hid (hbw.alloc (o := .cells #[.string (bs t), .int .i64 m] 32) (by omega))
          clear hI hbw
          go_wp2_with fail
          refine HS.out.mono ?_
          rintro e w2 ⟨rfl, hI2, hb2, -⟩
          have hs2 := hb2.size
          have hbf := Lib.hid (hbx.out.trans hb2)
          replace hI2 := Lib.hid hI2
          clear hb2 HS
          go_wp2
          go_roundw
          case rel => exact ⟨k + 1, by omega, by go_num, hI2.out, hbf.out, by simp at hs2; omega⟩
          case measure => simp [intOf]; omega
        · have e1 : (t == [10]) = false := by rw [beq_eq_false_iff_ne]; exact h10
          by_cases h11 : tp = [10]
          · have e2 : (tp == [10]) = true := by rw [h11]; rfl
            have E := Lib.hid (hpl.out (Or.inl h11))
            replace h10 := Lib.hid h10
            replace h11 := Lib.hid h11
            have HS := Lib.hid (bldStr_any w.heap.size w.heap.size _ (bs t) (wr.alloc (.cells #[.string (bs t), .int .i64 m] 32)) (hI.alloc _) (by rw [Lib.byteCells_length, bs_size, ← E.out]; omega) (by simp; omega))
            rw [strCells_bs, ← Lib.byteCells_append, ← E.out, ← hP.out] at HS
            have hbx := Lib.hid (hbw.alloc (o := .cells #[.string (bs t), .int .i64 m] 32) (by omega))
            clear hI hbw
            go_wp2_with fail
            refine HS.out.mono ?_
            rintro e w2 ⟨rfl, hI2, hb2, -⟩
            have hs2 := hb2.size
            have hbf := Lib.hid (hbx.out.trans hb2)
            replace hI2 := Lib.hid hI2
            clear hb2 HS
            go_wp2
            go_roundw
            case rel => exact ⟨k + 1, by omega, by go_num, hI2.out, hbf.out, by simp at hs2; omega⟩
            case measure => simp [intOf]; omega
          · have e2 : (tp == [10]) = false := by rw [beq_eq_false_iff_ne]; exact h11
            have E := Lib.hid (hgp.out h11 h10)
            replace h10 := Lib.hid h10
            replace h11 := Lib.hid h11
            have hlE : (shP T k).length + 1 = (shW T k).length := by rw [E.out]; simp
            have HB := Lib.hid (bldByte_any w.heap.size w.heap.size _ 32 (wr.alloc (.cells #[.string (bs t), .int .i64 m] 32)) (hI.alloc _) (by rw [Lib.byteCells_length]; omega) (by simp; omega))
            have e32 : Lib.byteCells (shP T k) ++ [Value.int .u8 32] = Lib.byteCells (shW T k) := by rw [E.out, Lib.byteCells_append]; rfl
            rw [e32] at HB
            have hbx := Lib.hid (hbw.alloc (o := .cells #[.string (bs t), .int .i64 m] 32) (by omega))
            clear hI hbw
            go_wp2_with fail
            refine HB.out.mono ?_
            rintro e w2 ⟨rfl, hI2, hb2, hk2⟩
            have hs2 := hb2.size
            have hrow : w2.heap[wr.heap.size]? = some (.cells #[.string (bs t), .int .i64 m] 32 (0, 0)) := hk2 _ _ (heap_alloc_new wr _) (fun e1 => by have := Option.some.inj e1; omega) (fun c fz e1 => by injection e1 with _ e2; exact absurd e2 (by decide))
            have hcz : w2.cell? ⟨wr.heap.size, 0, none⟩ = some (.string (bs t)) := by rw [Lib.cell_of_heap hrow]; rfl
            have hs3 : wr.heap.size + 1 ≤ w2.heap.size := by simp at hs2; omega
            have HS := Lib.hid (bldStr_any w.heap.size w.heap.size _ (bs t) w2 hI2 (by rw [Lib.byteCells_length, bs_size]; omega) (by omega))
            rw [strCells_bs, ← Lib.byteCells_append, ← hP.out] at HS
            have hbf := Lib.hid (hbx.out.trans hb2)
            clear hI2 hb2 hk2 hrow HB hs2
            go_wp2_with fail
            refine HS.out.mono ?_
            rintro e w3 ⟨rfl, hI3, hb3, -⟩
            have hs4 := hb3.size
            have hbg := Lib.hid (hbf.out.trans hb3)
            replace hI3 := Lib.hid hI3
            clear hb3 HS
            go_wp2
            go_roundw
            case rel => exact ⟨k + 1, by omega, by go_num, hI3.out, hbg.out, by omega⟩
            case measure => simp [intOf]; omega
      · have E : Hid (shW T k = shP T k) := Lib.hid (by rw [show k = 0 by omega]; rfl)
        have hd : decide ((0 : Int) < (k : Int)) = false := decide_eq_false (by omega)
        replace hP := Lib.hid hP
        generalize T[k].2 = m at *
        generalize T[k].1 = t at *
        have l1 := bs_list t
        have HS := Lib.hid (bldStr_any w.heap.size w.heap.size _ (bs t) (wr.alloc (.cells #[.string (bs t), .int .i64 m] 32)) (hI.alloc _) (by rw [Lib.byteCells_length, bs_size, ← E.out]; omega) (by simp; omega))
        rw [strCells_bs, ← Lib.byteCells_append, ← E.out, ← hP.out] at HS
        have hbx := Lib.hid (hbw.alloc (o := .cells #[.string (bs t), .int .i64 m] 32) (by omega))
        clear hI hbw
        go_wp2_with fail
        refine HS.out.mono ?_
        rintro e w2 ⟨rfl, hI2, hb2, -⟩
        have hs2 := hb2.size
        have hbf := Lib.hid (hbx.out.trans hb2)
        replace hI2 := Lib.hid hI2
        clear hb2 HS
        go_wp2
        go_roundw
        case rel => exact ⟨k + 1, by omega, by go_num, hI2.out, hbf.out, by simp at hs2; omega⟩
        case measure => simp [intOf]; omega
    · obtain rfl : k = T.length := by omega
      have HS := Lib.hid (Try.Builder_String_any_k w.heap.size w.heap.size _ wr hI (by omega))
      have E : Hid (⟨(shP T T.length).toArray⟩ = bs (showT T)) := Lib.hid (by rw [bs_arr, showT_P])
      rw [E.out] at HS
      replace hbw := Lib.hid hbw
      clear hI
      go_wp2_with fail
      refine HS.out.mono ?_
      rintro e w2 ⟨rfl, -, hb2, -⟩
      have hbf := Lib.hid (hbw.out.trans hb2)
      clear hb2 HS
      go_wp2
      go_ret
      exact ⟨rfl, hbf.out⟩
end Go.Proofs.Ythanlgdbnhcilaa
namespace Go.Proofs.Ythanlgdbnhcilaa
set_option linter.unusedVariables false
set_option linter.unusedSimpArgs false
open Go.ChangeShapes Go.WideShapes Go.ChangeAt Go.RowKit
theorem bs_lit2 (a : Array UInt8) : (⟨a⟩ : ByteArray) = bs a.toList := by unfold bs; simp
def ex13 : List UInt8 := [122, 111, 110, 101, 32, 65, 32, 35, 32, 120, 10, 32, 98, 97, 115, 101, 9, 43, 49, 32, 66]
def exT : List Tok := [([122, 111, 110, 101], 1), ([65], 1), ([10], 1), ([98, 97, 115, 101], 2), ([43, 49], 2), ([66], 2), ([10], 2)]
def exS : List UInt8 := [122, 111, 110, 101, 32, 65, 10, 98, 97, 115, 101, 32, 43, 49, 32, 66, 10]
theorem ex_lex : lexT ex13 = exT ∧ lexE ex13 = 0 ∧ lexE [97, 13] = 2 ∧ showT exT = exS ∧ szT exT ≤ 1000000000 := by decide +kernel
set_option maxHeartbeats 3200000 in
set_option maxRecDepth 100000 in
theorem awake13_any (w : World) : Calls Try.prog 7 #[] w fun e w' => e = .returned (.bool true) ∧ Below w.heap.size w w' := by
  obtain ⟨e1, e2, e3, e4, e5⟩ := ex_lex
  have X1 := pLex_any ex13
  have X2 := pLex_any [97, 13]
  rw [e1, e2] at X1
  rw [e3] at X2
  have X3 := pShow_any exT e5
  rw [e4] at X3
  have l3 : (bs exS).toList = [122, 111, 110, 101, 32, 65, 10, 98, 97, 115, 101, 32, 43, 49, 32, 66, 10] := bs_list _
  have z1 : bs ex13 = ⟨#[122, 111, 110, 101, 32, 65, 32, 35, 32, 120, 10, 32, 98, 97, 115, 101, 9, 43, 49, 32, 66]⟩ := (bs_lit2 _).symm
  have z2 : bs [97, 13] = ⟨#[97, 13]⟩ := (bs_lit2 _).symm
  rw [z1] at X1
  rw [z2] at X2
  have H1 := Lib.hid X1
  have H2 := Lib.hid X2
  have H3 := Lib.hid X3
  clear X1 X2 X3 e1 e2 e3 e4 e5 z1 z2
  generalize bs exS = S at *
  go_enter Try.func7, Try.ntmps7
  go_wp2_with fail
  refine (H1.out _).mono ?_
  rintro e w1 ⟨v1, rfl, hown1, hb1⟩
  obtain ⟨A1, c1, g1, rfl, hl1, hA1, _⟩ := own_form hown1
  obtain ⟨rfl, hg1, hg2⟩ := hA1 (by decide)
  have HR1 := Lib.hid (Rd.own hown1)
  clear hown1 hA1
  have k1 := Lib.hid (hl1 2 _ rfl)
  have k2 := Lib.hid (hl1 3 _ rfl)
  have k3 := Lib.hid (hl1 12 _ rfl)
  have k4 := Lib.hid (hl1 13 _ rfl)
  clear hl1
  replace hb1 := Lib.hid hb1
  go_simp
  go_wp2_with fail
  refine (H2.out _).mono ?_
  rintro e w2 ⟨v2, rfl, hown2, hb2⟩
  have k1' : w2.cell? ⟨g1, 2, none⟩ = some (.string (bs [65])) := (hb2.cell (p := ⟨g1, 2, none⟩) hg2).trans k1.out
  have k2' : w2.cell? ⟨g1, 3, none⟩ = some (.int .i64 1) := (hb2.cell (p := ⟨g1, 3, none⟩) hg2).trans k2.out
  have k3' : w2.cell? ⟨g1, 12, none⟩ = some (.string (bs [10])) := (hb2.cell (p := ⟨g1, 12, none⟩) hg2).trans k3.out
  have k4' : w2.cell? ⟨g1, 13, none⟩ = some (.int .i64 2) := (hb2.cell (p := ⟨g1, 13, none⟩) hg2).trans k4.out
  have m1 := bs_list [65]
  have m2 := bs_list [10]
  have HS := Lib.hid (H3.out (some ⟨g1, 0, none⟩) c1 w2 (HR1.out.below hb2 (Nat.le_refl _)))
  replace hb2 := Lib.hid hb2
  have hlen : exT.length = 7 := rfl
  rw [hlen] at HS
  clear hown2 k1 k2 k3 k4
  go_simp
  go_wp2_with fail
  refine HS.out.mono ?_
  rintro e w3 ⟨rfl, hb3⟩
  have HB : Hid (Below w.heap.size w w3) := Lib.hid ((hb1.out.trans (hb2.out.mono hb1.out.size)).trans (hb3.mono (Nat.le_trans hb1.out.size hb2.out.size)))
  clear hb3
  go_wp2
  go_ret
  exact ⟨rfl, HB.out⟩
theorem lexE_big {L : List UInt8} (h : 4096 < L.length) : lexE L = 1 := if_pos h
theorem lexT_len (L : List UInt8) : (lexT L).length ≤ 1024 := by
  unfold lexT
  split
  · rename_i h
    unfold lexE at h
    split at h
    · cases h
    · split at h
      · cases h
      · omega
  · simp
set_option maxHeartbeats 3200000 in
set_option maxRecDepth 100000 in
theorem lexTexts_walk (L : List UInt8) (hL : L.length ≤ 9223372036854775807) (w : World) : Calls Try.prog 3 #[.string (bs L)] w fun e w' => e = .returned (.bool true) ∧ Below w.heap.size w w' := by
  have hS := bs_size L
  have H7 := Lib.hid awake13_any
  have X1 := pLex_any L
  by_cases hb : 10000 < L.length
  · rw [lexE_big (by omega)] at X1
    have H1 := Lib.hid X1
    clear X1
    go_enter Try.func3, Try.ntmps3
    go_wp2_with fail
    refine (H1.out _).mono ?_
    rintro e w1 ⟨v1, rfl, hown1, hb1⟩
    clear hown1
    replace hb1 := Lib.hid hb1
    go_simp
    go_wp2_with fail
    refine (H7.out _).mono ?_
    rintro e w2 ⟨rfl, hb2⟩
    have HB : Hid (Below w.heap.size w w2) := Lib.hid (hb1.out.trans (hb2.mono hb1.out.size))
    clear hb2
    go_wp2
    go_ret
    exact ⟨rfl, HB.out⟩
  · have H1 := Lib.hid X1
    have H2 := Lib.hid (rLexA_any L)
    have hT := lexT_len L
    have HT := Lib.hid (rTokens_yes (lexT L))
    clear X1
    generalize lexT L = T at *
    generalize lexE L = E at *
    go_enter Try.func3, Try.ntmps3
    go_wp2_with fail
    refine (H1.out _).mono ?_
    rintro e w1 ⟨v1, rfl, hown1, hb1⟩
    obtain ⟨A1, c1, g1, rfl, _⟩ := own_form hown1
    have HR1 := Lib.hid (Rd.own hown1)
    clear hown1
    replace hb1 := Lib.hid hb1
    go_simp
    go_wp2_with fail
    refine (H2.out _).mono ?_
    rintro e w2 ⟨v2, rfl, hown2, hb2⟩
    obtain ⟨A2, c2, g2, rfl, _⟩ := own_form hown2
    have HX := Lib.hid (HT.out A1 A2 c1 c2 w2 (by omega) (HR1.out.below hb2 (Nat.le_refl _)) (Rd.own hown2))
    clear hown2
    replace hb2 := Lib.hid hb2
    go_simp
    go_wp2_with fail
    refine HX.out.mono ?_
    rintro e w3 ⟨rfl, hb3⟩
    replace hb3 := Lib.hid hb3
    go_wp2_with fail
    refine (H7.out _).mono ?_
    rintro e w4 ⟨rfl, hb4⟩
    have HB : Hid (Below w.heap.size w w4) := Lib.hid (((hb1.out.trans (hb2.out.mono hb1.out.size)).trans (hb3.out.mono (Nat.le_trans hb1.out.size hb2.out.size))).trans (hb4.mono (Nat.le_trans (Nat.le_trans hb1.out.size hb2.out.size) hb3.out.size)))
    clear hb4
    go_wp2
    go_ret
    exact ⟨rfl, HB.out⟩
set_option maxHeartbeats 3200000 in
set_option maxRecDepth 100000 in
theorem lexShows_walk (T : List Tok) (hs : szT T ≤ 1000000000) (A : Option Addr) (c : Nat) (w : World) (hR : Rd w A (tokVs T)) : Calls Try.prog 4 #[.slice A T.length c] w fun e w' => e = .returned (.bool true) ∧ Below w.heap.size w w' := by
  have H7 := Lib.hid awake13_any
  have HR := Lib.hid hR
  have H1 := Lib.hid (pShow_any T hs A c w hR)
  have H2 := Lib.hid (rShow_any T hs A c)
  have hlenT := szT_ge T
  have hsz : Hid (∀ j, j ≤ T.length → szT (T.take j) ≤ szT T) := Lib.hid (fun j _ => szT_take T j)
  have lS := bs_list (showT T)
  clear hR
  generalize showT T = S at *
  go_enter Try.func4, Try.ntmps4
  go_wp2
  go_loop [3, 4] (fun n i => ∃ k : Nat, k ≤ T.length ∧ i = .int .i64 (k : Int) ∧ n = .int .i64 (szT (T.take k) : Int)) (fun _ i => T.length - (intOf i).toNat)
  case atStart => exact ⟨0, by omega, rfl, rfl⟩
  case round =>
    obtain ⟨k, hk, rfl, rfl⟩ := hrel
    have hsk := hsz.out k hk
    by_cases hlt : k < T.length
    · obtain ⟨b, o, rfl, hb, hc⟩ := HR.out.tok hlt
      have hcell := (hc k hlt).1
      have hs1 := hsz.out (k + 1) (by omega)
      have hsn : szT (T.take (k + 1)) = szT (T.take k) + (T[k].1.length + 1) := by rw [List.take_succ_eq_append_getElem hlt, szT_snoc]
      have z2 := bs_size T[k].1
      rw [hsn] at hs1
      replace hsn := Lib.hid hsn
      clear hc
      generalize T[k].1 = t at *
      generalize szT (T.take k) = N at *
      go_wp2
      go_round
      case rel => exact ⟨k + 1, by omega, by go_num, by rw [hsn.out]; go_num⟩
      case measure => simp [intOf]; omega
    · obtain rfl : k = T.length := by omega
      rw [List.take_length] at *
      generalize szT T = N at *
      by_cases hbig : 10000 < N
      · go_wp2_with fail
        refine (H7.out _).mono ?_
        rintro e w1 ⟨rfl, hb1⟩
        replace hb1 := Lib.hid hb1
        go_wp2
        go_ret
        exact ⟨rfl, hb1.out⟩
      · go_wp2_with fail
        refine H1.out.mono ?_
        rintro e w1 ⟨rfl, hb1⟩
        have H3 := Lib.hid (H2.out w1 (HR.out.below hb1 (Nat.le_refl _)))
        replace hb1 := Lib.hid hb1
        go_wp2_with fail
        refine H3.out.mono ?_
        rintro e w2 ⟨rfl, rfl⟩
        go_wp2_with fail
        refine (H7.out _).mono ?_
        rintro e w3 ⟨rfl, hb3⟩
        have HB : Hid (Below w.heap.size w w3) := Lib.hid (hb1.out.trans (hb3.mono hb1.out.size))
        clear hb3
        go_wp2
        go_ret
        exact ⟨rfl, HB.out⟩
end Go.Proofs.Ythanlgdbnhcilaa
namespace Go.Proofs.Ythanlgdbnhcilaa
set_option linter.unusedVariables false
set_option linter.unusedSimpArgs false
open Go.ChangeShapes Go.WideShapes Go.ChangeAt Go.RowKit
theorem trS_snoc (note : List UInt8) (l : List UInt8) (c : UInt8) : trS note (l ++ [c]) = trS note l ++ trN note c := by unfold trS; simp
theorem trN_blank {note : List UInt8} {c : UInt8} (h : c.toNat = 32 ∨ c.toNat = 9) : trN note c = [9, 32] := by
  unfold trN blankB
  rcases h with h | h <;> rw [h] <;> rfl
theorem trN_nl {note : List UInt8} {c : UInt8} (h : c.toNat = 10) : trN note c = [32, 35] ++ note ++ [10, 32] := by
  unfold trN blankB
  rw [h]; rfl
theorem trN_byte {note : List UInt8} {c : UInt8} (h1 : c.toNat ≠ 32) (h2 : c.toNat ≠ 9) (h3 : c.toNat ≠ 10) : trN note c = [c] := by
  unfold trN blankB
  rw [if_neg (by simp; omega), if_neg h3]
theorem lexE_zero {L : List UInt8} (h : lexE L = 0) : L.length ≤ 4096 := by
  unfold lexE at h
  split at h
  · cases h
  · omega
theorem all_okN {note : List UInt8} (h : note.all (fun c => decide (32 ≤ c.toNat) && decide (c.toNat ≤ 126)) = true) : ∀ c ∈ note, 32 ≤ c.toNat ∧ c.toNat ≤ 126 := by
  intro c hc
  have := List.all_eq_true.1 h c hc
  simpa using this
set_option maxHeartbeats 6400000 in
set_option maxRecDepth 100000 in
theorem lexNotes_walk (L M : List UInt8) (hL : L.length ≤ 9223372036854775807) (hM : M.length ≤ 9223372036854775807) (w : World) : Calls Try.prog 5 #[.string (bs L), .string (bs M)] w fun e w' => e = .returned (.bool true) ∧ Below w.heap.size w w' := by
  have hS := bs_size L
  have hSM := bs_size M
  have H7 := Lib.hid awake13_any
  have H1 := Lib.hid (pLex_any L)
  by_cases hE : lexE L = 0
  · have hL2 := lexE_zero hE
    have HP := Lib.hid (fun t => pLex_any t)
    have HT := Lib.hid (rTokens_yes (lexT L))
    have hTl := lexT_len L
    have HX := Lib.hid (fun (hN : ∀ c ∈ M, 32 ≤ c.toNat ∧ c.toNat ≤ 126) hs => lex_tr M L hN hE hs)
    rw [hE] at H1
    replace hE := Lib.hid hE
    by_cases hl1 : 1000 < L.length
    · generalize lexT L = T at *
      go_enter Try.func5, Try.ntmps5
      go_wp2_with fail
      refine (H1.out _).mono ?_
      rintro e w1 ⟨v1, rfl, hown1, hb1⟩
      clear hown1
      replace hb1 := Lib.hid hb1
      go_simp
      go_wp2_with fail
      refine (H7.out _).mono ?_
      rintro e w2 ⟨rfl, hb2⟩
      have HB : Hid (Below w.heap.size w w2) := Lib.hid (hb1.out.trans (hb2.mono hb1.out.size))
      clear hb2
      go_wp2
      go_ret
      exact ⟨rfl, HB.out⟩
    · by_cases hl2 : 1000 < M.length
      · generalize lexT L = T at *
        go_enter Try.func5, Try.ntmps5
        go_wp2_with fail
        refine (H1.out _).mono ?_
        rintro e w1 ⟨v1, rfl, hown1, hb1⟩
        clear hown1
        replace hb1 := Lib.hid hb1
        go_simp
        go_wp2_with fail
        refine (H7.out _).mono ?_
        rintro e w2 ⟨rfl, hb2⟩
        have HB : Hid (Below w.heap.size w w2) := Lib.hid (hb1.out.trans (hb2.mono hb1.out.size))
        clear hb2
        go_wp2
        go_ret
        exact ⟨rfl, HB.out⟩
      · have q1 : decide (1000 < (L.length : Int)) = false := decide_eq_false (by omega)
        have q2 : decide (1000 < (M.length : Int)) = false := decide_eq_false (by omega)
        have HT0 : Hid (lexT L = lexT L) := Lib.hid rfl
        generalize hTT : lexT L = T at *
        replace hTT := Lib.hid hTT
        have t0 : Hid ((⟨#[32, 32]⟩ : ByteArray) = bs (trS M (L.take 0))) := Lib.hid (bs_lit2 _)
        go_enter Try.func5, Try.ntmps5
        go_wp2_with fail
        refine (H1.out _).mono ?_
        rintro e w1 ⟨v1, rfl, hown1, hb1⟩
        obtain ⟨A1, c1, g1, rfl, _⟩ := own_form hown1
        have HR1 := Lib.hid (Rd.own hown1)
        clear hown1
        replace hb1 := Lib.hid hb1
        go_simp
        go_wp2
        go_loop [7] (fun i => ∃ k : Nat, k ≤ M.length ∧ i = .int .i64 (k : Int) ∧ (M.take k).all (fun c => decide (32 ≤ c.toNat) && decide (c.toNat ≤ 126)) = true) (fun i => M.length - (intOf i).toNat)
        case atStart => exact ⟨0, by omega, rfl, rfl⟩
        case round =>
          obtain ⟨k, hk, rfl, hall⟩ := hrel
          by_cases hlt : k < M.length
          · obtain ⟨c, hc⟩ : ∃ c : Nat, M[k].toNat = c := ⟨_, rfl⟩
            have hb := byte_bs M k hlt (by rw [hSM]; exact hlt) hc
            by_cases hc1 : c < 32
            · replace hc := Lib.hid hc
              replace hall := Lib.hid hall
              go_wp2_with fail
              refine (H7.out _).mono ?_
              rintro e w2 ⟨rfl, hb2⟩
              have HB : Hid (Below w.heap.size w w2) := Lib.hid (hb1.out.trans (hb2.mono hb1.out.size))
              clear hb2
              go_wp2
              go_ret
              exact ⟨rfl, HB.out⟩
            · by_cases hc2 : 126 < c
              · replace hc := Lib.hid hc
                replace hall := Lib.hid hall
                go_wp2_with fail
                refine (H7.out _).mono ?_
                rintro e w2 ⟨rfl, hb2⟩
                have HB : Hid (Below w.heap.size w w2) := Lib.hid (hb1.out.trans (hb2.mono hb1.out.size))
                clear hb2
                go_wp2
                go_ret
                exact ⟨rfl, HB.out⟩
              · have E : Hid ((M.take (k + 1)).all (fun c => decide (32 ≤ c.toNat) && decide (c.toNat ≤ 126)) = true) := Lib.hid (by
                  rw [List.take_succ_eq_append_getElem hlt, List.all_append, hall]; simp; omega)
                replace hc := Lib.hid hc
                replace hall := Lib.hid hall
                go_wp2
                go_round
                case rel => exact ⟨k + 1, by omega, by go_num, E.out⟩
                case measure => simp [intOf]; omega
          · obtain rfl : k = M.length := by omega
            rw [List.take_length] at hall
            have HN := Lib.hid (all_okN hall)
            replace hall := Lib.hid hall
            go_wp2
            go_loop [8, 9] (fun t i => ∃ k : Nat, k ≤ L.length ∧ i = .int .i64 (k : Int) ∧ t = .string (bs (trS M (L.take k))) ∧ (trS M (L.take k)).length ≤ 3002 + 2 * k) (fun _ i => L.length - (intOf i).toNat)
            case atStart => exact ⟨0, by omega, rfl, by rw [t0.out], by simp [trS]⟩
            case round =>
              obtain ⟨k, hk, rfl, rfl, hlen⟩ := hrel
              by_cases hlt : k < L.length
              · obtain ⟨c, hc⟩ : ∃ c : Nat, L[k].toNat = c := ⟨_, rfl⟩
                have hb := byte_bs L k hlt (by rw [hS]; exact hlt) hc
                have hsn : trS M (L.take (k + 1)) = trS M (L.take k) ++ trN M L[k] := by rw [take_snoc hlt, trS_snoc]
                obtain ⟨S1, hS1⟩ : ∃ S1, S1 = trS M (L.take (k + 1)) := ⟨_, rfl⟩
                rw [← hS1] at hsn
                generalize trS M (L.take k) = S at *
                have zS := bs_size S
                by_cases hbl : c = 32 ∨ c = 9
                · rw [trN_blank (by omega)] at hsn
                  have a1 : bs S ++ ⟨#[9, 32]⟩ = bs S1 := by rw [hsn, bs_lit2, append_bs]
                  have hl3 : S1.length ≤ 3002 + 2 * (k + 1) := by rw [hsn]; simp; omega
                  have hst : ¬ (9223372036854775807 < S.length + 2) := by omega
                  replace hsn := Lib.hid hsn
                  replace hS1 := Lib.hid hS1
                  replace hc := Lib.hid hc
                  rcases hbl with rfl | rfl
                  all_goals
                    go_wp2
                    go_round
                    case rel => exact ⟨k + 1, by omega, by go_num, by rw [← hS1.out], by rw [← hS1.out]; exact hl3⟩
                    case measure => simp [intOf]; omega
                · have b1 : ((c : Int) == 32) = false := beq_eq_false_iff_ne.2 (by omega)
                  have b2 : ((c : Int) == 9) = false := beq_eq_false_iff_ne.2 (by omega)
                  by_cases h10 : c = 10
                  · rw [trN_nl (by omega)] at hsn
                    have a1 : (⟨#[32, 35]⟩ : ByteArray) ++ bs M = bs ([32, 35] ++ M) := by rw [bs_lit2, append_bs]
                    have a2 : bs ([32, 35] ++ M) ++ ⟨#[10, 32]⟩ = bs ([32, 35] ++ M ++ [10, 32]) := by rw [bs_lit2 #[10, 32], append_bs]
                    have a3 : bs S ++ bs ([32, 35] ++ M ++ [10, 32]) = bs S1 := by rw [hsn, append_bs]
                    have z1 : (bs ([32, 35] ++ M)).size = M.length + 2 := by rw [bs_size]; simp
                    have z2 : (bs ([32, 35] ++ M ++ [10, 32])).size = M.length + 4 := by rw [bs_size]; simp
                    have z3 := bs_size S1
                    have s1 : ¬ (9223372036854775807 < 2 + M.length) := by omega
                    have s2 : ¬ (9223372036854775807 < M.length + 2 + 2) := by omega
                    have s3 : ¬ (9223372036854775807 < S.length + (M.length + 4)) := by omega
                    have hl3 : S1.length ≤ 100000 := by rw [hsn]; simp; omega
                    generalize [32, 35] ++ M ++ [10, 32] = M2 at *
                    generalize [32, 35] ++ M = M1 at *
                    replace hsn := Lib.hid hsn
                    replace hS1 := Lib.hid hS1
                    replace hc := Lib.hid hc
                    subst h10
                    by_cases hbig : 3000 < S1.length
                    · go_wp2_with fail
                      refine (H7.out _).mono ?_
                      rintro e w2 ⟨rfl, hb2⟩
                      have HB : Hid (Below w.heap.size w w2) := Lib.hid (hb1.out.trans (hb2.mono hb1.out.size))
                      clear hb2
                      go_wp2
                      go_ret
                      exact ⟨rfl, HB.out⟩
                    · go_wp2
                      go_round
                      case rel => exact ⟨k + 1, by omega, by go_num, by rw [← hS1.out], by rw [← hS1.out]; omega⟩
                      case measure => simp [intOf]; omega
                  · have b3 : ((c : Int) == 10) = false := beq_eq_false_iff_ne.2 (by omega)
                    rw [trN_byte (by omega) (by omega) (by omega)] at hsn
                    have hX := fun W => slice_one L k hlt W
                    have a1 : bs S ++ bs [L[k]] = bs S1 := by rw [hsn, append_bs]
                    have z1 : (bs [L[k]]).size = 1 := bs_size _
                    have hl3 : S1.length ≤ 3002 + 2 * (k + 1) := by rw [hsn]; simp; omega
                    have hst : ¬ (9223372036854775807 < S.length + 1) := by omega
                    replace hsn := Lib.hid hsn
                    replace hS1 := Lib.hid hS1
                    replace hc := Lib.hid hc
                    generalize bs [L[k]] = one at *
                    go_wp2
                    go_round
                    case rel => exact ⟨k + 1, by omega, by go_num, by rw [← hS1.out], by rw [← hS1.out]; exact hl3⟩
                    case measure => simp [intOf]; omega
              · obtain rfl : k = L.length := by omega
                rw [List.take_length] at *
                have HX2 := Lib.hid (HX.out HN.out)
                generalize hSS : trS M L = S at *
                have zS := bs_size S
                by_cases hbig : 4096 < S.length
                · replace hSS := Lib.hid hSS
                  go_wp2_with fail
                  refine (H7.out _).mono ?_
                  rintro e w2 ⟨rfl, hb2⟩
                  have HB : Hid (Below w.heap.size w w2) := Lib.hid (hb1.out.trans (hb2.mono hb1.out.size))
                  clear hb2
                  go_wp2
                  go_ret
                  exact ⟨rfl, HB.out⟩
                · obtain ⟨x1, x2⟩ := HX2.out (by omega)
                  have X3 := HP.out S
                  rw [x1, x2] at X3
                  have H3 := Lib.hid X3
                  clear X3 x1 x2
                  replace hSS := Lib.hid hSS
                  go_wp2_with fail
                  refine (H3.out _).mono ?_
                  rintro e w2 ⟨v2, rfl, hown2, hb2⟩
                  obtain ⟨A2, c2, g2, rfl, _⟩ := own_form hown2
                  have HY := Lib.hid (HT.out A1 A2 c1 c2 w2 (by omega) (HR1.out.below hb2 (Nat.le_refl _)) (Rd.own hown2))
                  clear hown2
                  replace hb2 := Lib.hid hb2
                  go_simp
                  go_wp2_with fail
                  refine HY.out.mono ?_
                  rintro e w3 ⟨rfl, hb3⟩
                  replace hb3 := Lib.hid hb3
                  go_wp2_with fail
                  refine (H7.out _).mono ?_
                  rintro e w4 ⟨rfl, hb4⟩
                  have HB : Hid (Below w.heap.size w w4) := Lib.hid (((hb1.out.trans (hb2.out.mono hb1.out.size)).trans (hb3.out.mono (Nat.le_trans hb1.out.size hb2.out.size))).trans (hb4.mono (Nat.le_trans (Nat.le_trans hb1.out.size hb2.out.size) hb3.out.size)))
                  clear hb4
                  go_wp2
                  go_ret
                  exact ⟨rfl, HB.out⟩
  · have f1 : (lexE L != 0) = true := bne_iff_ne.2 hE
    generalize lexT L = T at *
    generalize lexE L = E at *
    replace hE := Lib.hid hE
    go_enter Try.func5, Try.ntmps5
    go_wp2_with fail
    refine (H1.out _).mono ?_
    rintro e w1 ⟨v1, rfl, hown1, hb1⟩
    clear hown1
    replace hb1 := Lib.hid hb1
    go_simp
    go_wp2_with fail
    refine (H7.out _).mono ?_
    rintro e w2 ⟨rfl, hb2⟩
    have HB : Hid (Below w.heap.size w w2) := Lib.hid (hb1.out.trans (hb2.mono hb1.out.size))
    clear hb2
    go_wp2
    go_ret
    exact ⟨rfl, HB.out⟩
theorem lexTextsS_walk (s : ByteArray) (hs : s.size ≤ 9223372036854775807) (w : World) : Calls Try.prog 3 #[.string s] w fun e w' => e = .returned (.bool true) ∧ Below w.heap.size w w' := by
  have h := lexTexts_walk s.data.toList (by rw [size_toList]; omega) w
  rwa [bs_of] at h
theorem lexNotesS_walk (s t : ByteArray) (hs : s.size ≤ 9223372036854775807) (ht : t.size ≤ 9223372036854775807) (w : World) : Calls Try.prog 5 #[.string s, .string t] w fun e w' => e = .returned (.bool true) ∧ Below w.heap.size w w' := by
  have h := lexNotes_walk s.data.toList t.data.toList (by rw [size_toList]; omega) (by rw [size_toList]; omega) w
  rwa [bs_of, bs_of] at h
end Go.Proofs.Ythanlgdbnhcilaa
namespace Go.Proofs.Ythanlgdbnhcilaa
open Go Go.ChangeShapes Go.WideShapes Go.ChangeAt Go.RowKit Go.Deep
set_option linter.unusedVariables false
theorem tok_dec {H : Type} {enc : TypeId × Value → H} {w : World} {base : Nat} {spare : Nat → Bool} {held : Bool} {n : Nat} {cs : List Value} {d : DataW H} {ps : List MemPlace}
    (h : DataW.trod enc Try.prog w base spare held n 32 cs = some (d, ps)) (hl : cs.length = Try.prog.cellsOf 32) : ∃ y : Tok, cs = tokV y ∧ y.1.length + 1 ≤ Rows.uptoBulk d := by
  have c1 : Try.prog.cellsOf 9 = 1 := by kernel_rfl
  have c2 : Try.prog.cellsOf 3 = 1 := by kernel_rfl
  have c3 : Try.prog.cellsOf 32 = 2 := by kernel_rfl
  rw [c3] at hl
  match cs, hl with
  | [a, b], _ =>
    obtain ⟨y0, y1, m, hx, _, h0, h1⟩ := trod_struct2 Try.underlying32 h
    have g0 : DataW.trod enc Try.prog w base spare held m 9 [a] = some y0 := by simpa [c1] using h0
    have g1 : DataW.trod enc Try.prog w base spare held m 3 [b] = some y1 := by simpa [c2] using h1
    obtain ⟨s, e0, rfl, _⟩ := DataW.trod_string Try.underlying9 g0
    obtain ⟨z, e1, rfl, _⟩ := DataW.trod_int Try.underlying3 g1
    simp at e0 e1
    subst e0 e1
    simp at hx
    obtain ⟨rfl, _⟩ := hx
    refine ⟨(s.data.toList, z), by unfold tokV strV; rw [bs_of], ?_⟩
    simp [Rows.uptoBulk, Rows.uptoBulkAll]
set_option maxRecDepth 100000 in
theorem open_toks {H : Type} {enc : TypeId × Value → H} {w : World} {base : Nat} {spare : Nat → Bool} {held : Bool} {r : Reach} {b0 : Nat} {v : Value} {d : DataW H} {p : List MemPlace}
    (hv : Value.okWide Try.prog w r b0 22 v) (h : DataW.Trod enc Try.prog w base spare held 22 v d p) :
    ∃ (T : List Tok) (A : Option Addr) (c : Nat), v = .slice A T.length c ∧ Rd w A (tokVs T) ∧ szT T + 1 ≤ Rows.uptoBulk d := by
  obtain ⟨a, l, c, rfl⟩ := okWide_slice Try.underlying22 hv
  obtain ⟨fuel, hf⟩ := h
  obtain ⟨T, A, c', e, hR, hw, _⟩ := open_rows tokV (fun y => y.1.length + 1) Try.underlying22 (fun n cs d ps h1 h2 => tok_dec h1 h2) hf
  simp [Value.cells] at e
  obtain ⟨rfl, rfl, rfl⟩ := e
  exact ⟨T, a, c, rfl, hR, hw⟩
end Go.Proofs.Ythanlgdbnhcilaa
