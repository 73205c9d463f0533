/- Several texts in one: RpA, RpB, RpC. -/
import Derived.Test.YteinjdmkmfeniaaGreatDoorZPkg1
import Derived.Test.YteinjdmkmfeniaaGreatDoorZRul1
import Derived.Test.YteinjdmkmfeniaaGreatDoorZKx1
import Derived.Test.YteinjdmkmfeniaaGreatDoorZWp2
import Derived.Test.YteinjdmkmfeniaaGreatDoorZPlanQ1
import Derived.Defers
import Derived.Recover
namespace Go.Proofs.YteinjdmkmfeniaaGreatDoor
set_option linter.unusedVariables false
set_option linter.unusedSimpArgs false
open Go.ChangeShapes Go.WideShapes Go.ChangeAt Go.RowKit
def pan (E : Int) : Ending := .panicked [{ v := .iface 28 (.int .i64 E), recovered := false }]
theorem grow3 {P : Program} {f : Nat} {args : Array Value} {w : World} {r : Ending} (h : Calls P f args w fun e w' => e = r ∧ w = w') : Calls P f args w fun e w' => e = r ∧ Below w.heap.size w w' := h.mono fun e w' ⟨a, b⟩ => ⟨a, b ▸ Below.refl _ _⟩
theorem pMust_ok (w : World) : Calls Tryz.prog 61 #[.int .i64 0] w fun e w' => e = .returned (.tuple #[]) ∧ w = w' := by
  go_enter Tryz.func61, Tryz.ntmps61
  go_wp2
  go_end0
  exact ⟨rfl, rfl⟩
theorem pMust_no (E : Int) (hE : E ≠ 0) (w : World) : Calls Tryz.prog 61 #[.int .i64 E] w fun e w' => e = pan E ∧ w = w' := by
  have q : (E != 0) = true := bne_iff_ne.2 hE
  go_enter Tryz.func61, Tryz.ntmps61
  go_wp2
  exact ⟨rfl, rfl, rfl⟩
theorem pSureInt_ok (v : Int) (w : World) : Calls Tryz.prog 62 #[.int .i64 v, .int .i64 0] w fun e w' => e = .returned (.int .i64 v) ∧ w = w' := by
  go_enter Tryz.func62, Tryz.ntmps62
  go_wp2_with fail
  refine (pMust_ok _).mono ?_
  rintro e w1 ⟨rfl, rfl⟩
  go_wp2
  go_ret
  exact ⟨rfl, rfl⟩
theorem pSureInt_no (v E : Int) (hE : E ≠ 0) (w : World) : Calls Tryz.prog 62 #[.int .i64 v, .int .i64 E] w fun e w' => e = pan E ∧ w = w' := by
  go_enter Tryz.func62, Tryz.ntmps62
  go_wp2_with fail
  refine (pMust_no E hE _).mono ?_
  rintro e w1 ⟨rfl, rfl⟩
  exact ⟨rfl, rfl, rfl⟩
theorem pSureDay_ok (a b c : Int) (w : World) : Calls Tryz.prog 98 #[.agg #[.int .i64 a, .int .i64 b, .int .i64 c], .int .i64 0] w fun e w' => e = .returned (.agg #[.int .i64 a, .int .i64 b, .int .i64 c]) ∧ Below w.heap.size w w' := by
  go_enter Tryz.func98, Tryz.ntmps98
  refine wp_shut ?_
  go_wp2_with fail
  refine (pMust_ok _).mono ?_
  rintro e w1 ⟨rfl, rfl⟩
  go_wp2
  refine shut_ret (v := .agg #[.int .i64 a, .int .i64 b, .int .i64 c]) (by simp [results, Tryz.results98, go_sem]) rfl ⟨rfl, by go_grown⟩
theorem pSureDay_no (a b c E : Int) (hE : E ≠ 0) (w : World) : Calls Tryz.prog 98 #[.agg #[.int .i64 a, .int .i64 b, .int .i64 c], .int .i64 E] w fun e w' => e = pan E ∧ Below w.heap.size w w' := by
  go_enter Tryz.func98, Tryz.ntmps98
  go_wp2_with fail
  refine (pMust_no E hE _).mono ?_
  rintro e w1 ⟨rfl, rfl⟩
  exact ⟨rfl, rfl, by go_grown⟩
theorem pLetters_ok (L : List UInt8) (hL : L.length ≤ 100000) (hE : abbE L = 0) (w : World) : Calls Tryz.prog 64 #[.string (bs L)] w fun e w' => e = .returned (.string (bs L)) ∧ Below w.heap.size w w' := by
  have H := pAbbr_any L hL
  rw [hE] at H
  replace H := Lib.hid H
  go_enter Tryz.func64, Tryz.ntmps64
  go_wp2_with fail
  refine (H.out _).mono ?_
  rintro e w1 ⟨rfl, hb⟩
  replace hb := Lib.hid hb
  go_wp2_with fail
  refine (pMust_ok _).mono ?_
  rintro e w2 ⟨rfl, rfl⟩
  go_wp2
  go_ret
  exact ⟨rfl, hb.out⟩
theorem pLetters_no (L : List UInt8) (hL : L.length ≤ 100000) (hE : abbE L ≠ 0) (w : World) : Calls Tryz.prog 64 #[.string (bs L)] w fun e w' => e = pan (abbE L) ∧ Below w.heap.size w w' := by
  have H := Lib.hid (pAbbr_any L hL)
  go_enter Tryz.func64, Tryz.ntmps64
  go_wp2_with fail
  refine (H.out _).mono ?_
  rintro e w1 ⟨rfl, hb⟩
  replace hb := Lib.hid hb
  go_wp2_with fail
  refine (pMust_no _ hE _).mono ?_
  rintro e w2 ⟨rfl, rfl⟩
  exact ⟨rfl, rfl, hb.out⟩
theorem pSummer_ok (d : Bool) (w : World) : Calls Tryz.prog 110 #[.string (bs (if d = true then dstL else stdL))] w fun e w' => e = .returned (.bool d) ∧ w = w' := by
  cases d
  · rw [if_neg (by decide)]
    have l := bs_list stdL
    have q : (stdL == [115, 116, 100]) = true := rfl
    generalize stdL = S at *
    go_enter Tryz.func110, Tryz.ntmps110
    go_wp2
    go_ret
    exact ⟨rfl, rfl⟩
  · rw [if_pos rfl]
    have l := bs_list dstL
    have q1 : (dstL == [115, 116, 100]) = false := rfl
    have q : (dstL == [100, 115, 116]) = true := rfl
    generalize dstL = S at *
    go_enter Tryz.func110, Tryz.ntmps110
    go_wp2
    go_ret
    exact ⟨rfl, rfl⟩
theorem pSummer_no (y : List UInt8) (h : y ≠ stdL ∧ y ≠ dstL) (w : World) : Calls Tryz.prog 110 #[.string (bs y)] w fun e w' => e = pan 2 ∧ w = w' := by
  have l := bs_list y
  have q1 : (y == [115, 116, 100]) = false := beq_eq_false_iff_ne.2 h.1
  have q2 : (y == [100, 115, 116]) = false := beq_eq_false_iff_ne.2 h.2
  clear h
  go_enter Tryz.func110, Tryz.ntmps110
  go_wp2
  exact ⟨rfl, rfl, rfl⟩
theorem pExpect_ok (ws : List (List UInt8)) (f0 : List UInt8) (n : Nat) (A : Option Addr) (c : Nat) (w : World) (hR : Rd w A (ws.map strV)) (hn : ws.length = n) (h0 : 0 < n) (h1 : wd ws 0 = f0) :
    Calls Tryz.prog 60 #[.slice A n c, .string (bs f0), .int .i64 (n : Int)] w fun e w' => e = .returned (.tuple #[]) ∧ w = w' := by
  have hl : 0 < ws.length := by omega
  obtain ⟨b, o, rfl, hbl, hcell⟩ := hR.wrd (k := 0) hl
  have k0 := hcell 0 hl
  rw [← wdr_at ws 0 hl, h1, Nat.add_zero] at k0
  have q0 : (f0 == f0) = true := beq_self_eq_true f0
  have l0 := bs_list f0
  have q2 : (0 : Int) < (n : Int) := Int.natCast_pos.2 h0
  have q1 : ((n : Int) != (n : Int)) = false := bne_self_eq_false _
  clear hcell hR h1 hn hl
  go_enter Tryz.func60, Tryz.ntmps60
  go_wp2
  go_end0
  exact ⟨rfl, rfl⟩
theorem pExpect_no (ws : List (List UInt8)) (f0 : List UInt8) (n : Nat) (A : Option Addr) (c : Nat) (w : World) (hR : Rd w A (ws.map strV)) (h0 : 0 < ws.length) (h1 : wd ws 0 ≠ f0 ∨ ws.length ≠ n) :
    Calls Tryz.prog 60 #[.slice A ws.length c, .string (bs f0), .int .i64 (n : Int)] w fun e w' => e = pan 2 ∧ w = w' := by
  obtain ⟨b, o, rfl, hbl, hcell⟩ := hR.wrd (k := 0) (by omega)
  have k0 := hcell 0 (by omega)
  rw [← wdr_at ws 0 (by omega), Nat.add_zero] at k0
  have q2 : (0 : Int) < (ws.length : Int) := Int.natCast_pos.2 h0
  have l0 := bs_list f0
  clear hcell hR
  generalize wd ws 0 = x at *
  have l1 := bs_list x
  generalize ws.length = N at *
  by_cases hx : x = f0
  · have q0 : (x == f0) = true := by rw [hx]; exact beq_self_eq_true f0
    have hN : N ≠ n := h1.resolve_left (fun e => e hx)
    have q1 : ((N : Int) != (n : Int)) = true := bne_iff_ne.2 (by omega)
    replace hN := Lib.hid hN
    replace h1 := Lib.hid h1
    replace hx := Lib.hid hx
    go_enter Tryz.func60, Tryz.ntmps60
    go_wp2
    exact ⟨rfl, rfl, rfl⟩
  · have q0 : (x == f0) = false := beq_eq_false_iff_ne.2 hx
    replace h1 := Lib.hid h1
    replace hx := Lib.hid hx
    go_enter Tryz.func60, Tryz.ntmps60
    go_wp2
    all_goals exact ⟨rfl, rfl, rfl⟩
theorem mnT_moS : ∀ j : Fin 12, mnT.getD j.val [] = moS ((j.val : Int) + 1) := by decide +kernel
theorem mn_moS {j : Nat} (h : j < 12) : mnT.getD j [] = moS ((j : Int) + 1) := mnT_moS ⟨j, h⟩
theorem mn_at {t : List UInt8} {k : Nat} (hk : k < 12) (h : t = mnT.getD k []) : monI t = (k : Int) + 1 := by
  rw [h, mn_moS hk]; exact mon_moS _ (by omega) (by omega)
theorem mn_no {t : List UInt8} (h : ∀ k, k < 12 → t ≠ mnT.getD k []) : monI t = 0 := mon_none (fun j h1 h2 => by
  have e := h (j - 1) (by omega)
  rw [mn_moS (by omega)] at e
  rwa [show ((j - 1 : Nat) : Int) + 1 = (j : Int) by omega] at e)
def mnV : Value := .agg #[.string (bs [106, 97, 110]), .string (bs [102, 101, 98]), .string (bs [109, 97, 114]), .string (bs [97, 112, 114]), .string (bs [109, 97, 121]), .string (bs [106, 117, 110]), .string (bs [106, 117, 108]), .string (bs [97, 117, 103]), .string (bs [115, 101, 112]), .string (bs [111, 99, 116]), .string (bs [110, 111, 118]), .string (bs [100, 101, 99])]
theorem gMN : Tryz.prog.globalNamed "analemma/rules.monthNames" = some 0 := by kernel_rfl
set_option maxHeartbeats 3200000 in
set_option maxRecDepth 100000 in
theorem pMonth15_p (t : List UInt8) (w : World) (hM : StrsAt w "analemma/rules.monthNames" mnT) : Calls Tryz.prog 97 #[.string (bs t)] w fun e w' => ((monI t ≠ 0 ∧ e = .returned (.int .i64 (monI t))) ∨ (monI t = 0 ∧ e = pan 2)) ∧ w = w' := by
  have cell := (hM _ gMN).1
  have c0 : w.cell? ⟨0, 0, none⟩ = some (.string (bs [106, 97, 110])) := cell 0 (by decide)
  have c1 : w.cell? ⟨0, 1, none⟩ = some (.string (bs [102, 101, 98])) := cell 1 (by decide)
  have c2 : w.cell? ⟨0, 2, none⟩ = some (.string (bs [109, 97, 114])) := cell 2 (by decide)
  have c3 : w.cell? ⟨0, 3, none⟩ = some (.string (bs [97, 112, 114])) := cell 3 (by decide)
  have c4 : w.cell? ⟨0, 4, none⟩ = some (.string (bs [109, 97, 121])) := cell 4 (by decide)
  have c5 : w.cell? ⟨0, 5, none⟩ = some (.string (bs [106, 117, 110])) := cell 5 (by decide)
  have c6 : w.cell? ⟨0, 6, none⟩ = some (.string (bs [106, 117, 108])) := cell 6 (by decide)
  have c7 : w.cell? ⟨0, 7, none⟩ = some (.string (bs [97, 117, 103])) := cell 7 (by decide)
  have c8 : w.cell? ⟨0, 8, none⟩ = some (.string (bs [115, 101, 112])) := cell 8 (by decide)
  have c9 : w.cell? ⟨0, 9, none⟩ = some (.string (bs [111, 99, 116])) := cell 9 (by decide)
  have c10 : w.cell? ⟨0, 10, none⟩ = some (.string (bs [110, 111, 118])) := cell 10 (by decide)
  have c11 : w.cell? ⟨0, 11, none⟩ = some (.string (bs [100, 101, 99])) := cell 11 (by decide)
  have zg := (hM _ gMN).2
  clear hM cell
  have hi : ∀ (k : Nat), k < 12 → ∀ w, (Instr.index 62 mnV (.int .i64 (k : Int))).run Tryz.prog w = .ok (.string (bs (mnT.getD k []))) w := by
    intro k hk
    match k, hk with
    | 0, _ => exact fun _ => by kernel_rfl
    | 1, _ => exact fun _ => by kernel_rfl
    | 2, _ => exact fun _ => by kernel_rfl
    | 3, _ => exact fun _ => by kernel_rfl
    | 4, _ => exact fun _ => by kernel_rfl
    | 5, _ => exact fun _ => by kernel_rfl
    | 6, _ => exact fun _ => by kernel_rfl
    | 7, _ => exact fun _ => by kernel_rfl
    | 8, _ => exact fun _ => by kernel_rfl
    | 9, _ => exact fun _ => by kernel_rfl
    | 10, _ => exact fun _ => by kernel_rfl
    | 11, _ => exact fun _ => by kernel_rfl
  unfold mnV at hi
  have lt := bs_list t
  go_enter Tryz.func97, Tryz.ntmps97
  go_wp2
  go_loop [6] (fun i => ∃ k : Nat, k ≤ 12 ∧ i = .int .i64 (k : Int) ∧ Hid (∀ j, j < k → t ≠ mnT.getD j [])) (fun i => 12 - (intOf i).toNat)
  case atStart => exact ⟨0, by omega, rfl, Lib.hid (fun j hj => by omega)⟩
  case round =>
    obtain ⟨k, hk, rfl, hno⟩ := hrel
    by_cases hlt : k < 12
    · have hik := hi k hlt
      have lk := bs_list (mnT.getD k [])
      by_cases he : t = mnT.getD k []
      · have E := Lib.hid (mn_at hlt he)
        have hq : (t == mnT.getD k []) = true := by rw [beq_iff_eq]; exact he
        clear hi c0 c1 c2 c3 c4 c5 c6 c7 c8 c9 c10 c11
        replace he := Lib.hid he
        have hw1 : IntKind.i64.wrap ((k : Int) + 1) = (k : Int) + 1 := wrap_small _ (by omega) (by omega)
        generalize mnT.getD k [] = D at *
        go_wp2
        go_ret
        exact ⟨Or.inl ⟨by rw [E.out]; omega, by rw [E.out]; rfl⟩, rfl⟩
      · have hq : (t == mnT.getD k []) = false := by rw [beq_eq_false_iff_ne]; exact he
        have E : Hid (∀ j, j < k + 1 → t ≠ mnT.getD j []) := Lib.hid (fun j hj => by
          by_cases hjk : j = k
          · subst hjk; exact he
          · exact hno.out j (by omega))
        clear hi c0 c1 c2 c3 c4 c5 c6 c7 c8 c9 c10 c11
        replace he := Lib.hid he
        generalize mnT.getD k [] = D at *
        go_wp2
        go_round
        case rel => exact ⟨k + 1, by omega, by go_num, E⟩
        case measure => simp [intOf]; omega
    · obtain rfl : k = 12 := by omega
      have E := Lib.hid (mn_no hno.out)
      clear hi c0 c1 c2 c3 c4 c5 c6 c7 c8 c9 c10 c11
      go_wp2
      exact ⟨rfl, Or.inr ⟨E.out, rfl⟩, rfl⟩
theorem pEnd_only (f : Int) (w : World) : Calls Tryz.prog 96 #[.string (bs onlyL), .int .i64 f] w fun e w' => e = .returned (.int .i64 f) ∧ Below w.heap.size w w' := by
  have l := bs_list onlyL
  have q : (onlyL == [111, 110, 108, 121]) = true := rfl
  generalize onlyL = S at *
  go_enter Tryz.func96, Tryz.ntmps96
  go_wp2
  go_ret
  exact ⟨rfl, Below.refl _ _⟩
theorem pEnd_on (f : Int) (w : World) : Calls Tryz.prog 96 #[.string (bs onL), .int .i64 f] w fun e w' => e = .returned (.int .i64 1048576) ∧ Below w.heap.size w w' := by
  have l := bs_list onL
  have q1 : (onL == [111, 110, 108, 121]) = false := rfl
  have q : (onL == [111, 110]) = true := rfl
  generalize onL = S at *
  go_enter Tryz.func96, Tryz.ntmps96
  go_wp2
  go_ret
  exact ⟨rfl, Below.refl _ _⟩
theorem pEnd_ok (f : Int) (t : List UInt8) (hL : t.length ≤ 100000) (h1 : t ≠ onlyL) (h2 : t ≠ onL) (hE : numE t (-9999) 9999 = 0) (w : World) : Calls Tryz.prog 96 #[.string (bs t), .int .i64 f] w fun e w' => e = .returned (.int .i64 (numV t (-9999) 9999)) ∧ Below w.heap.size w w' := by
  have l := bs_list t
  have q1 : (t == [111, 110, 108, 121]) = false := beq_eq_false_iff_ne.2 h1
  have q : (t == [111, 110]) = false := beq_eq_false_iff_ne.2 h2
  have H := pYear_any t hL
  rw [hE] at H
  replace H := Lib.hid H
  generalize numV t (-9999) 9999 = v at *
  clear h1 h2 hE
  go_enter Tryz.func96, Tryz.ntmps96
  go_wp2_with fail
  refine (H.out _).mono ?_
  rintro e w1 ⟨rfl, hb⟩
  replace hb := Lib.hid hb
  go_wp2_with fail
  refine (pSureInt_ok _ _).mono ?_
  rintro e w2 ⟨rfl, rfl⟩
  go_wp2
  go_ret
  exact ⟨rfl, hb.out⟩
theorem pEnd_no (f : Int) (t : List UInt8) (hL : t.length ≤ 100000) (h1 : t ≠ onlyL) (h2 : t ≠ onL) (hE : numE t (-9999) 9999 ≠ 0) (w : World) : Calls Tryz.prog 96 #[.string (bs t), .int .i64 f] w fun e w' => e = pan (numE t (-9999) 9999) ∧ Below w.heap.size w w' := by
  have l := bs_list t
  have q1 : (t == [111, 110, 108, 121]) = false := beq_eq_false_iff_ne.2 h1
  have q : (t == [111, 110]) = false := beq_eq_false_iff_ne.2 h2
  have H := Lib.hid (pYear_any t hL)
  generalize numV t (-9999) 9999 = v at *
  generalize numE t (-9999) 9999 = x at *
  clear h1 h2
  go_enter Tryz.func96, Tryz.ntmps96
  go_wp2_with fail
  refine (H.out _).mono ?_
  rintro e w1 ⟨rfl, hb⟩
  replace hb := Lib.hid hb
  go_wp2_with fail
  refine (pSureInt_no _ _ hE _).mono ?_
  rintro e w2 ⟨rfl, rfl⟩
  exact ⟨rfl, rfl, hb.out⟩
end Go.Proofs.YteinjdmkmfeniaaGreatDoor
namespace Go.Proofs.YteinjdmkmfeniaaGreatDoor
set_option linter.unusedVariables false
set_option linter.unusedSimpArgs false
open Go.ChangeShapes Go.WideShapes Go.ChangeAt Go.RowKit
set_option maxHeartbeats 1600000 in
set_option maxRecDepth 100000 in
theorem pTriple_ok (x y z : List UInt8) (hx : x.length ≤ 100000) (hz : z.length ≤ 100000) (n c : Nat) (w : World) (b o : Nat) (hn : 3 ≤ n) (hb : b < w.heap.size)
    (c0 : w.cell? ⟨b, o, none⟩ = some (.string (bs x))) (c1 : w.cell? ⟨b, o + 1, none⟩ = some (.string (bs y))) (c2 : w.cell? ⟨b, o + 2, none⟩ = some (.string (bs z))) (hE : (triR x y z).2.2.2 = 0) :
    Calls Tryz.prog 94 #[.slice (some ⟨b, o, none⟩) n c] w fun e w' => e = .returned (.agg #[.int .i64 (triR x y z).1, .bool (triR x y z).2.1, .string (bs (triR x y z).2.2.1)]) ∧ Below w.heap.size w w' := by
  have h1 : ¬ offE x ≠ 0 := fun h => by rw [tri_off h] at hE; exact h hE
  have h2 : ¬ (y ≠ stdL ∧ y ≠ dstL) := fun h => by rw [tri_odd h1 h] at hE; exact absurd hE (by decide)
  have h3 : ¬ abbE z ≠ 0 := fun h => by rw [tri_abb h1 h2 h] at hE; exact h hE
  rw [tri_ok h1 h2 h3]
  have X1 := pOffset_any x hx
  rw [Classical.not_not.1 h1] at X1
  have H1 := Lib.hid X1
  have H2 := Lib.hid (fun w => grow3 (pSureInt_ok (offV x) w))
  have hy : y = if (y == dstL) = true then dstL else stdL := by
    by_cases e : y = dstL
    · rw [if_pos (by rw [e]; rfl)]; exact e
    · rw [if_neg (by simpa using e)]; exact Classical.not_not.1 (fun e2 => h2 ⟨e2, e⟩)
  have X3 := fun w => grow3 (pSummer_ok (y == dstL) w)
  rw [← hy] at X3
  have H3 := Lib.hid X3
  have H4 := Lib.hid (pLetters_ok z hz (Classical.not_not.1 h3))
  clear X1 X3 h1 h2 h3 hy hE
  have i0 : (0 : Int) < (n : Int) := by omega
  have i1 : (1 : Int) < (n : Int) := by omega
  have i2 : (2 : Int) < (n : Int) := by omega
  have K1 := Lib.hid c1
  have K2 := Lib.hid c2
  clear c1 c2
  generalize offV x = ov at *
  generalize (y == dstL) = d at *
  go_enter Tryz.func94, Tryz.ntmps94
  refine wp_shut ?_
  go_wp2_with fail
  
  refine (H1.out _).mono ?_
  rintro e V1 ⟨rfl, hb1⟩
  have B1 := Lib.hid ((((Below.refl w.heap.size w).alloc (Nat.le_refl _) _).alloc (by simp <;> omega) _).trans (hb1.mono (by first | assumption | (simp <;> omega) | (simp; done))))
  have Z1 := Lib.hid (row_call hb1 (row_alloc (heap_alloc_new _ _) _))
  have T1 := Lib.hid (row_at (k' := w.heap.size + 1) (by simp) (row_call hb1 (heap_alloc_new _ _)))
  clear hb1
  have Z1_0 : V1.cell? ⟨w.heap.size, 0, none⟩ = some (.int .i64 0) := cell_of_row _ _ _ _ _ _ Z1.out
  have Z1_1 : V1.cell? ⟨w.heap.size, 1, none⟩ = some (.bool false) := cell_of_row _ _ _ _ _ _ Z1.out
  have Z1_2 : V1.cell? ⟨w.heap.size, 2, none⟩ = some (.string ⟨#[]⟩) := cell_of_row _ _ _ _ _ _ Z1.out
  have Z1_f0 : V1.frozen? ⟨w.heap.size, 0, none⟩ = false := by simp [World.frozen?, Z1.out]
  have Z1_f1 : V1.frozen? ⟨w.heap.size, 1, none⟩ = false := by simp [World.frozen?, Z1.out]
  have Z1_f2 : V1.frozen? ⟨w.heap.size, 2, none⟩ = false := by simp [World.frozen?, Z1.out]
  have T1_0 : V1.cell? ⟨w.heap.size + 1, 0, none⟩ = some (.int .i64 0) := cell_of_row _ _ _ _ _ _ T1.out
  have T1_1 : V1.cell? ⟨w.heap.size + 1, 1, none⟩ = some (.bool false) := cell_of_row _ _ _ _ _ _ T1.out
  have T1_2 : V1.cell? ⟨w.heap.size + 1, 2, none⟩ = some (.string ⟨#[]⟩) := cell_of_row _ _ _ _ _ _ T1.out
  have T1_f0 : V1.frozen? ⟨w.heap.size + 1, 0, none⟩ = false := by simp [World.frozen?, T1.out]
  have T1_f1 : V1.frozen? ⟨w.heap.size + 1, 1, none⟩ = false := by simp [World.frozen?, T1.out]
  have T1_f2 : V1.frozen? ⟨w.heap.size + 1, 2, none⟩ = false := by simp [World.frozen?, T1.out]
  have zZ1 := lt_of_heap Z1.out
  have zT1 := lt_of_heap T1.out
  go_simp
  go_wp2_with fail
  refine (H2.out _).mono ?_
  rintro e V2 ⟨rfl, hb2⟩
  clear Z1_0 Z1_1 Z1_2 Z1_f0 Z1_f1 Z1_f2 zZ1 T1_0 T1_1 T1_2 T1_f0 T1_f1 T1_f2 zT1
  have B2 : Hid (Below w.heap.size w V2) := by first | exact Lib.hid ((B1.out).trans (hb2.mono (by have := B1.out.size; first | assumption | (simp <;> omega) | (simp; done)))) | exact Lib.hid (((B1.out).alloc (B1.out.size) _).trans (hb2.mono (by have := B1.out.size; first | assumption | (simp <;> omega) | (simp; done)))) | exact Lib.hid ((((B1.out).alloc (B1.out.size) _).alloc (by have := B1.out.size; simp <;> omega) _).trans (hb2.mono (by have := B1.out.size; first | assumption | (simp <;> omega) | (simp; done)))) | exact Lib.hid (((((B1.out).alloc (B1.out.size) _).alloc (by have := B1.out.size; simp <;> omega) _).alloc (by have := B1.out.size; simp <;> omega) _).trans (hb2.mono (by have := B1.out.size; first | assumption | (simp <;> omega) | (simp; done))))
  first | replace Z1 := Lib.hid (row_call hb2 Z1.out) | replace Z1 := Lib.hid (row_call hb2 (row_alloc Z1.out _)) | replace Z1 := Lib.hid (row_call hb2 (row_alloc (row_alloc Z1.out _) _)) | replace Z1 := Lib.hid (row_call hb2 (row_alloc (row_alloc (row_alloc Z1.out _) _) _))
  first | replace T1 := Lib.hid (row_call hb2 T1.out) | replace T1 := Lib.hid (row_call hb2 (row_alloc T1.out _)) | replace T1 := Lib.hid (row_call hb2 (row_alloc (row_alloc T1.out _) _)) | replace T1 := Lib.hid (row_call hb2 (row_alloc (row_alloc (row_alloc T1.out _) _) _))
  clear hb2
  have Z1_0 : V2.cell? ⟨w.heap.size, 0, none⟩ = some (.int .i64 0) := cell_of_row _ _ _ _ _ _ Z1.out
  have Z1_1 : V2.cell? ⟨w.heap.size, 1, none⟩ = some (.bool false) := cell_of_row _ _ _ _ _ _ Z1.out
  have Z1_2 : V2.cell? ⟨w.heap.size, 2, none⟩ = some (.string ⟨#[]⟩) := cell_of_row _ _ _ _ _ _ Z1.out
  have Z1_f0 : V2.frozen? ⟨w.heap.size, 0, none⟩ = false := by simp [World.frozen?, Z1.out]
  have Z1_f1 : V2.frozen? ⟨w.heap.size, 1, none⟩ = false := by simp [World.frozen?, Z1.out]
  have Z1_f2 : V2.frozen? ⟨w.heap.size, 2, none⟩ = false := by simp [World.frozen?, Z1.out]
  have T1_0 : V2.cell? ⟨w.heap.size + 1, 0, none⟩ = some (.int .i64 0) := cell_of_row _ _ _ _ _ _ T1.out
  have T1_1 : V2.cell? ⟨w.heap.size + 1, 1, none⟩ = some (.bool false) := cell_of_row _ _ _ _ _ _ T1.out
  have T1_2 : V2.cell? ⟨w.heap.size + 1, 2, none⟩ = some (.string ⟨#[]⟩) := cell_of_row _ _ _ _ _ _ T1.out
  have T1_f0 : V2.frozen? ⟨w.heap.size + 1, 0, none⟩ = false := by simp [World.frozen?, T1.out]
  have T1_f1 : V2.frozen? ⟨w.heap.size + 1, 1, none⟩ = false := by simp [World.frozen?, T1.out]
  have T1_f2 : V2.frozen? ⟨w.heap.size + 1, 2, none⟩ = false := by simp [World.frozen?, T1.out]
  have zZ1 := lt_of_heap Z1.out
  have zT1 := lt_of_heap T1.out
  have k1 : V2.cell? ⟨b, o + 1, none⟩ = some (.string (bs y)) := (B2.out.cell (p := ⟨b, o + 1, none⟩) hb).trans K1.out
  go_simp
  go_wp2_with fail
  refine (H3.out _).mono ?_
  rintro e V3 ⟨rfl, hb3⟩
  clear Z1_0 Z1_1 Z1_2 Z1_f0 Z1_f1 Z1_f2 zZ1 T1_0 T1_1 T1_2 T1_f0 T1_f1 T1_f2 zT1
  have B3 : Hid (Below w.heap.size w V3) := by first | exact Lib.hid ((keep1 (B2.out) (by omega) 0 _).trans (hb3.mono (by have := B2.out.size; first | assumption | (simp <;> omega) | (simp; done)))) | exact Lib.hid (((keep1 (B2.out) (by omega) 0 _).alloc (by have := B2.out.size; simp <;> omega) _).trans (hb3.mono (by have := B2.out.size; first | assumption | (simp <;> omega) | (simp; done)))) | exact Lib.hid ((((keep1 (B2.out) (by omega) 0 _).alloc (by have := B2.out.size; simp <;> omega) _).alloc (by have := B2.out.size; simp <;> omega) _).trans (hb3.mono (by have := B2.out.size; first | assumption | (simp <;> omega) | (simp; done)))) | exact Lib.hid (((((keep1 (B2.out) (by omega) 0 _).alloc (by have := B2.out.size; simp <;> omega) _).alloc (by have := B2.out.size; simp <;> omega) _).alloc (by have := B2.out.size; simp <;> omega) _).trans (hb3.mono (by have := B2.out.size; first | assumption | (simp <;> omega) | (simp; done))))
  first | replace Z1 := Lib.hid (row_call hb3 (row_other1 (by omega) Z1.out 0 _)) | replace Z1 := Lib.hid (row_call hb3 (row_alloc (row_other1 (by omega) Z1.out 0 _) _)) | replace Z1 := Lib.hid (row_call hb3 (row_alloc (row_alloc (row_other1 (by omega) Z1.out 0 _) _) _)) | replace Z1 := Lib.hid (row_call hb3 (row_alloc (row_alloc (row_alloc (row_other1 (by omega) Z1.out 0 _) _) _) _))
  first | replace T1 : Hid (V3.heap[w.heap.size + 1]? = some (.cells #[.int .i64 ov, .bool false, .string ⟨#[]⟩] _ (0, 0))) := Lib.hid (row_call hb3 (row_set1 T1.out 0 _)) | replace T1 : Hid (V3.heap[w.heap.size + 1]? = some (.cells #[.int .i64 ov, .bool false, .string ⟨#[]⟩] _ (0, 0))) := Lib.hid (row_call hb3 (row_alloc (row_set1 T1.out 0 _) _)) | replace T1 : Hid (V3.heap[w.heap.size + 1]? = some (.cells #[.int .i64 ov, .bool false, .string ⟨#[]⟩] _ (0, 0))) := Lib.hid (row_call hb3 (row_alloc (row_alloc (row_set1 T1.out 0 _) _) _)) | replace T1 : Hid (V3.heap[w.heap.size + 1]? = some (.cells #[.int .i64 ov, .bool false, .string ⟨#[]⟩] _ (0, 0))) := Lib.hid (row_call hb3 (row_alloc (row_alloc (row_alloc (row_set1 T1.out 0 _) _) _) _))
  clear hb3
  have Z1_0 : V3.cell? ⟨w.heap.size, 0, none⟩ = some (.int .i64 0) := cell_of_row _ _ _ _ _ _ Z1.out
  have Z1_1 : V3.cell? ⟨w.heap.size, 1, none⟩ = some (.bool false) := cell_of_row _ _ _ _ _ _ Z1.out
  have Z1_2 : V3.cell? ⟨w.heap.size, 2, none⟩ = some (.string ⟨#[]⟩) := cell_of_row _ _ _ _ _ _ Z1.out
  have Z1_f0 : V3.frozen? ⟨w.heap.size, 0, none⟩ = false := by simp [World.frozen?, Z1.out]
  have Z1_f1 : V3.frozen? ⟨w.heap.size, 1, none⟩ = false := by simp [World.frozen?, Z1.out]
  have Z1_f2 : V3.frozen? ⟨w.heap.size, 2, none⟩ = false := by simp [World.frozen?, Z1.out]
  have T1_0 : V3.cell? ⟨w.heap.size + 1, 0, none⟩ = some (.int .i64 ov) := cell_of_row _ _ _ _ _ _ T1.out
  have T1_1 : V3.cell? ⟨w.heap.size + 1, 1, none⟩ = some (.bool false) := cell_of_row _ _ _ _ _ _ T1.out
  have T1_2 : V3.cell? ⟨w.heap.size + 1, 2, none⟩ = some (.string ⟨#[]⟩) := cell_of_row _ _ _ _ _ _ T1.out
  have T1_f0 : V3.frozen? ⟨w.heap.size + 1, 0, none⟩ = false := by simp [World.frozen?, T1.out]
  have T1_f1 : V3.frozen? ⟨w.heap.size + 1, 1, none⟩ = false := by simp [World.frozen?, T1.out]
  have T1_f2 : V3.frozen? ⟨w.heap.size + 1, 2, none⟩ = false := by simp [World.frozen?, T1.out]
  have zZ1 := lt_of_heap Z1.out
  have zT1 := lt_of_heap T1.out
  have k2 : V3.cell? ⟨b, o + 2, none⟩ = some (.string (bs z)) := (B3.out.cell (p := ⟨b, o + 2, none⟩) hb).trans K2.out
  clear k1
  go_simp
  go_wp2_with fail
  refine (H4.out _).mono ?_
  rintro e V4 ⟨rfl, hb4⟩
  clear Z1_0 Z1_1 Z1_2 Z1_f0 Z1_f1 Z1_f2 zZ1 T1_0 T1_1 T1_2 T1_f0 T1_f1 T1_f2 zT1
  have B4 : Hid (Below w.heap.size w V4) := by first | exact Lib.hid ((keep1 (B3.out) (by omega) 1 _).trans (hb4.mono (by have := B3.out.size; first | assumption | (simp <;> omega) | (simp; done)))) | exact Lib.hid (((keep1 (B3.out) (by omega) 1 _).alloc (by have := B3.out.size; simp <;> omega) _).trans (hb4.mono (by have := B3.out.size; first | assumption | (simp <;> omega) | (simp; done)))) | exact Lib.hid ((((keep1 (B3.out) (by omega) 1 _).alloc (by have := B3.out.size; simp <;> omega) _).alloc (by have := B3.out.size; simp <;> omega) _).trans (hb4.mono (by have := B3.out.size; first | assumption | (simp <;> omega) | (simp; done)))) | exact Lib.hid (((((keep1 (B3.out) (by omega) 1 _).alloc (by have := B3.out.size; simp <;> omega) _).alloc (by have := B3.out.size; simp <;> omega) _).alloc (by have := B3.out.size; simp <;> omega) _).trans (hb4.mono (by have := B3.out.size; first | assumption | (simp <;> omega) | (simp; done))))
  first | replace Z1 := Lib.hid (row_call hb4 (row_other1 (by omega) Z1.out 1 _)) | replace Z1 := Lib.hid (row_call hb4 (row_alloc (row_other1 (by omega) Z1.out 1 _) _)) | replace Z1 := Lib.hid (row_call hb4 (row_alloc (row_alloc (row_other1 (by omega) Z1.out 1 _) _) _)) | replace Z1 := Lib.hid (row_call hb4 (row_alloc (row_alloc (row_alloc (row_other1 (by omega) Z1.out 1 _) _) _) _))
  first | replace T1 : Hid (V4.heap[w.heap.size + 1]? = some (.cells #[.int .i64 ov, .bool d, .string ⟨#[]⟩] _ (0, 0))) := Lib.hid (row_call hb4 (row_set1 T1.out 1 _)) | replace T1 : Hid (V4.heap[w.heap.size + 1]? = some (.cells #[.int .i64 ov, .bool d, .string ⟨#[]⟩] _ (0, 0))) := Lib.hid (row_call hb4 (row_alloc (row_set1 T1.out 1 _) _)) | replace T1 : Hid (V4.heap[w.heap.size + 1]? = some (.cells #[.int .i64 ov, .bool d, .string ⟨#[]⟩] _ (0, 0))) := Lib.hid (row_call hb4 (row_alloc (row_alloc (row_set1 T1.out 1 _) _) _)) | replace T1 : Hid (V4.heap[w.heap.size + 1]? = some (.cells #[.int .i64 ov, .bool d, .string ⟨#[]⟩] _ (0, 0))) := Lib.hid (row_call hb4 (row_alloc (row_alloc (row_alloc (row_set1 T1.out 1 _) _) _) _))
  clear hb4
  have Z1_0 : V4.cell? ⟨w.heap.size, 0, none⟩ = some (.int .i64 0) := cell_of_row _ _ _ _ _ _ Z1.out
  have Z1_1 : V4.cell? ⟨w.heap.size, 1, none⟩ = some (.bool false) := cell_of_row _ _ _ _ _ _ Z1.out
  have Z1_2 : V4.cell? ⟨w.heap.size, 2, none⟩ = some (.string ⟨#[]⟩) := cell_of_row _ _ _ _ _ _ Z1.out
  have Z1_f0 : V4.frozen? ⟨w.heap.size, 0, none⟩ = false := by simp [World.frozen?, Z1.out]
  have Z1_f1 : V4.frozen? ⟨w.heap.size, 1, none⟩ = false := by simp [World.frozen?, Z1.out]
  have Z1_f2 : V4.frozen? ⟨w.heap.size, 2, none⟩ = false := by simp [World.frozen?, Z1.out]
  have T1_0 : V4.cell? ⟨w.heap.size + 1, 0, none⟩ = some (.int .i64 ov) := cell_of_row _ _ _ _ _ _ T1.out
  have T1_1 : V4.cell? ⟨w.heap.size + 1, 1, none⟩ = some (.bool d) := cell_of_row _ _ _ _ _ _ T1.out
  have T1_2 : V4.cell? ⟨w.heap.size + 1, 2, none⟩ = some (.string ⟨#[]⟩) := cell_of_row _ _ _ _ _ _ T1.out
  have T1_f0 : V4.frozen? ⟨w.heap.size + 1, 0, none⟩ = false := by simp [World.frozen?, T1.out]
  have T1_f1 : V4.frozen? ⟨w.heap.size + 1, 1, none⟩ = false := by simp [World.frozen?, T1.out]
  have T1_f2 : V4.frozen? ⟨w.heap.size + 1, 2, none⟩ = false := by simp [World.frozen?, T1.out]
  have zZ1 := lt_of_heap Z1.out
  have zT1 := lt_of_heap T1.out
  clear k2
  go_simp
  go_wp2
  refine shut_ret (v := .agg #[.int .i64 ov, .bool d, .string (bs z)]) (by simp [results, Tryz.results94, go_sem, zZ1, Z1_0, Z1_1, Z1_2]) rfl ⟨rfl, ?_⟩
  exact keep3 (keep1 B4.out (by omega) _ _) (Nat.le_refl _) _ _ _
set_option maxHeartbeats 1600000 in
set_option maxRecDepth 100000 in
theorem pTriple_no (x y z : List UInt8) (hx : x.length ≤ 100000) (hz : z.length ≤ 100000) (n c : Nat) (w : World) (b o : Nat) (hn : 3 ≤ n) (hb : b < w.heap.size)
    (c0 : w.cell? ⟨b, o, none⟩ = some (.string (bs x))) (c1 : w.cell? ⟨b, o + 1, none⟩ = some (.string (bs y))) (c2 : w.cell? ⟨b, o + 2, none⟩ = some (.string (bs z))) (hE : (triR x y z).2.2.2 ≠ 0) :
    Calls Tryz.prog 94 #[.slice (some ⟨b, o, none⟩) n c] w fun e w' => e = pan (triR x y z).2.2.2 ∧ Below w.heap.size w w' := by
  have i0 : (0 : Int) < (n : Int) := by omega
  have i1 : (1 : Int) < (n : Int) := by omega
  have i2 : (2 : Int) < (n : Int) := by omega
  have K1 := Lib.hid c1
  have K2 := Lib.hid c2
  clear c1 c2
  have X1 := pOffset_any x hx
  by_cases h1 : offE x ≠ 0
  · rw [tri_off h1]
    have H1 := Lib.hid X1
    have H2 := Lib.hid (fun w => grow3 (pSureInt_no (offV x) _ h1 w))
    clear X1 hE
    generalize offV x = ov at *
    generalize offE x = oe at *
    go_enter Tryz.func94, Tryz.ntmps94
    refine wp_shut ?_
    go_wp2_with fail
    
    refine (H1.out _).mono ?_
    rintro e V1 ⟨rfl, hb1⟩
    have B1 := Lib.hid ((((Below.refl w.heap.size w).alloc (Nat.le_refl _) _).alloc (by simp <;> omega) _).trans (hb1.mono (by first | assumption | (simp <;> omega) | (simp; done))))
    have Z1 := Lib.hid (row_call hb1 (row_alloc (heap_alloc_new _ _) _))
    have T1 := Lib.hid (row_at (k' := w.heap.size + 1) (by simp) (row_call hb1 (heap_alloc_new _ _)))
    clear hb1
    have Z1_0 : V1.cell? ⟨w.heap.size, 0, none⟩ = some (.int .i64 0) := cell_of_row _ _ _ _ _ _ Z1.out
    have Z1_1 : V1.cell? ⟨w.heap.size, 1, none⟩ = some (.bool false) := cell_of_row _ _ _ _ _ _ Z1.out
    have Z1_2 : V1.cell? ⟨w.heap.size, 2, none⟩ = some (.string ⟨#[]⟩) := cell_of_row _ _ _ _ _ _ Z1.out
    have Z1_f0 : V1.frozen? ⟨w.heap.size, 0, none⟩ = false := by simp [World.frozen?, Z1.out]
    have Z1_f1 : V1.frozen? ⟨w.heap.size, 1, none⟩ = false := by simp [World.frozen?, Z1.out]
    have Z1_f2 : V1.frozen? ⟨w.heap.size, 2, none⟩ = false := by simp [World.frozen?, Z1.out]
    have T1_0 : V1.cell? ⟨w.heap.size + 1, 0, none⟩ = some (.int .i64 0) := cell_of_row _ _ _ _ _ _ T1.out
    have T1_1 : V1.cell? ⟨w.heap.size + 1, 1, none⟩ = some (.bool false) := cell_of_row _ _ _ _ _ _ T1.out
    have T1_2 : V1.cell? ⟨w.heap.size + 1, 2, none⟩ = some (.string ⟨#[]⟩) := cell_of_row _ _ _ _ _ _ T1.out
    have T1_f0 : V1.frozen? ⟨w.heap.size + 1, 0, none⟩ = false := by simp [World.frozen?, T1.out]
    have T1_f1 : V1.frozen? ⟨w.heap.size + 1, 1, none⟩ = false := by simp [World.frozen?, T1.out]
    have T1_f2 : V1.frozen? ⟨w.heap.size + 1, 2, none⟩ = false := by simp [World.frozen?, T1.out]
    have zZ1 := lt_of_heap Z1.out
    have zT1 := lt_of_heap T1.out
    go_simp
    go_wp2_with fail
    refine (H2.out _).mono ?_
    rintro e w9 ⟨rfl, hb9⟩
    exact ⟨rfl, rfl, B1.out.trans (hb9.mono B1.out.size)⟩
  · rw [Classical.not_not.1 h1] at X1
    have H1 := Lib.hid X1
    have H2 := Lib.hid (fun w => grow3 (pSureInt_ok (offV x) w))
    clear X1
    by_cases h2 : y ≠ stdL ∧ y ≠ dstL
    · rw [tri_odd h1 h2]
      have H3 := Lib.hid (fun w => grow3 (pSummer_no y h2 w))
      clear hE h1 h2
      generalize offV x = ov at *
      go_enter Tryz.func94, Tryz.ntmps94
      refine wp_shut ?_
      go_wp2_with fail
      
      refine (H1.out _).mono ?_
      rintro e V1 ⟨rfl, hb1⟩
      have B1 := Lib.hid ((((Below.refl w.heap.size w).alloc (Nat.le_refl _) _).alloc (by simp <;> omega) _).trans (hb1.mono (by first | assumption | (simp <;> omega) | (simp; done))))
      have Z1 := Lib.hid (row_call hb1 (row_alloc (heap_alloc_new _ _) _))
      have T1 := Lib.hid (row_at (k' := w.heap.size + 1) (by simp) (row_call hb1 (heap_alloc_new _ _)))
      clear hb1
      have Z1_0 : V1.cell? ⟨w.heap.size, 0, none⟩ = some (.int .i64 0) := cell_of_row _ _ _ _ _ _ Z1.out
      have Z1_1 : V1.cell? ⟨w.heap.size, 1, none⟩ = some (.bool false) := cell_of_row _ _ _ _ _ _ Z1.out
      have Z1_2 : V1.cell? ⟨w.heap.size, 2, none⟩ = some (.string ⟨#[]⟩) := cell_of_row _ _ _ _ _ _ Z1.out
      have Z1_f0 : V1.frozen? ⟨w.heap.size, 0, none⟩ = false := by simp [World.frozen?, Z1.out]
      have Z1_f1 : V1.frozen? ⟨w.heap.size, 1, none⟩ = false := by simp [World.frozen?, Z1.out]
      have Z1_f2 : V1.frozen? ⟨w.heap.size, 2, none⟩ = false := by simp [World.frozen?, Z1.out]
      have T1_0 : V1.cell? ⟨w.heap.size + 1, 0, none⟩ = some (.int .i64 0) := cell_of_row _ _ _ _ _ _ T1.out
      have T1_1 : V1.cell? ⟨w.heap.size + 1, 1, none⟩ = some (.bool false) := cell_of_row _ _ _ _ _ _ T1.out
      have T1_2 : V1.cell? ⟨w.heap.size + 1, 2, none⟩ = some (.string ⟨#[]⟩) := cell_of_row _ _ _ _ _ _ T1.out
      have T1_f0 : V1.frozen? ⟨w.heap.size + 1, 0, none⟩ = false := by simp [World.frozen?, T1.out]
      have T1_f1 : V1.frozen? ⟨w.heap.size + 1, 1, none⟩ = false := by simp [World.frozen?, T1.out]
      have T1_f2 : V1.frozen? ⟨w.heap.size + 1, 2, none⟩ = false := by simp [World.frozen?, T1.out]
      have zZ1 := lt_of_heap Z1.out
      have zT1 := lt_of_heap T1.out
      go_simp
      go_wp2_with fail
      refine (H2.out _).mono ?_
      rintro e V2 ⟨rfl, hb2⟩
      clear Z1_0 Z1_1 Z1_2 Z1_f0 Z1_f1 Z1_f2 zZ1 T1_0 T1_1 T1_2 T1_f0 T1_f1 T1_f2 zT1
      have B2 : Hid (Below w.heap.size w V2) := by first | exact Lib.hid ((B1.out).trans (hb2.mono (by have := B1.out.size; first | assumption | (simp <;> omega) | (simp; done)))) | exact Lib.hid (((B1.out).alloc (B1.out.size) _).trans (hb2.mono (by have := B1.out.size; first | assumption | (simp <;> omega) | (simp; done)))) | exact Lib.hid ((((B1.out).alloc (B1.out.size) _).alloc (by have := B1.out.size; simp <;> omega) _).trans (hb2.mono (by have := B1.out.size; first | assumption | (simp <;> omega) | (simp; done)))) | exact Lib.hid (((((B1.out).alloc (B1.out.size) _).alloc (by have := B1.out.size; simp <;> omega) _).alloc (by have := B1.out.size; simp <;> omega) _).trans (hb2.mono (by have := B1.out.size; first | assumption | (simp <;> omega) | (simp; done))))
      first | replace Z1 := Lib.hid (row_call hb2 Z1.out) | replace Z1 := Lib.hid (row_call hb2 (row_alloc Z1.out _)) | replace Z1 := Lib.hid (row_call hb2 (row_alloc (row_alloc Z1.out _) _)) | replace Z1 := Lib.hid (row_call hb2 (row_alloc (row_alloc (row_alloc Z1.out _) _) _))
      first | replace T1 := Lib.hid (row_call hb2 T1.out) | replace T1 := Lib.hid (row_call hb2 (row_alloc T1.out _)) | replace T1 := Lib.hid (row_call hb2 (row_alloc (row_alloc T1.out _) _)) | replace T1 := Lib.hid (row_call hb2 (row_alloc (row_alloc (row_alloc T1.out _) _) _))
      clear hb2
      have Z1_0 : V2.cell? ⟨w.heap.size, 0, none⟩ = some (.int .i64 0) := cell_of_row _ _ _ _ _ _ Z1.out
      have Z1_1 : V2.cell? ⟨w.heap.size, 1, none⟩ = some (.bool false) := cell_of_row _ _ _ _ _ _ Z1.out
      have Z1_2 : V2.cell? ⟨w.heap.size, 2, none⟩ = some (.string ⟨#[]⟩) := cell_of_row _ _ _ _ _ _ Z1.out
      have Z1_f0 : V2.frozen? ⟨w.heap.size, 0, none⟩ = false := by simp [World.frozen?, Z1.out]
      have Z1_f1 : V2.frozen? ⟨w.heap.size, 1, none⟩ = false := by simp [World.frozen?, Z1.out]
      have Z1_f2 : V2.frozen? ⟨w.heap.size, 2, none⟩ = false := by simp [World.frozen?, Z1.out]
      have T1_0 : V2.cell? ⟨w.heap.size + 1, 0, none⟩ = some (.int .i64 0) := cell_of_row _ _ _ _ _ _ T1.out
      have T1_1 : V2.cell? ⟨w.heap.size + 1, 1, none⟩ = some (.bool false) := cell_of_row _ _ _ _ _ _ T1.out
      have T1_2 : V2.cell? ⟨w.heap.size + 1, 2, none⟩ = some (.string ⟨#[]⟩) := cell_of_row _ _ _ _ _ _ T1.out
      have T1_f0 : V2.frozen? ⟨w.heap.size + 1, 0, none⟩ = false := by simp [World.frozen?, T1.out]
      have T1_f1 : V2.frozen? ⟨w.heap.size + 1, 1, none⟩ = false := by simp [World.frozen?, T1.out]
      have T1_f2 : V2.frozen? ⟨w.heap.size + 1, 2, none⟩ = false := by simp [World.frozen?, T1.out]
      have zZ1 := lt_of_heap Z1.out
      have zT1 := lt_of_heap T1.out
      have k1 : V2.cell? ⟨b, o + 1, none⟩ = some (.string (bs y)) := (B2.out.cell (p := ⟨b, o + 1, none⟩) hb).trans K1.out
      go_simp
      go_wp2_with fail
      have B9 := Lib.hid (keep1 (k := w.heap.size + 1) B2.out (by omega) 0 (.int .i64 ov))
      refine (H3.out _).mono ?_
      rintro e w9 ⟨rfl, hb9⟩
      exact ⟨rfl, rfl, B9.out.trans (hb9.mono B9.out.size)⟩
    · have h3 : abbE z ≠ 0 := fun h => by rw [tri_ok h1 h2 (fun e => e h)] at hE; exact hE rfl
      rw [tri_abb h1 h2 h3]
      have hy : y = if (y == dstL) = true then dstL else stdL := by
        by_cases e : y = dstL
        · rw [if_pos (by rw [e]; rfl)]; exact e
        · rw [if_neg (by simpa using e)]; exact Classical.not_not.1 (fun e2 => h2 ⟨e2, e⟩)
      have X3 := fun w => grow3 (pSummer_ok (y == dstL) w)
      rw [← hy] at X3
      have H3 := Lib.hid X3
      have H4 := Lib.hid (pLetters_no z hz h3)
      clear X3 h1 h2 h3 hy hE
      generalize offV x = ov at *
      generalize (y == dstL) = d at *
      generalize abbE z = ae at *
      go_enter Tryz.func94, Tryz.ntmps94
      refine wp_shut ?_
      go_wp2_with fail
      
      refine (H1.out _).mono ?_
      rintro e V1 ⟨rfl, hb1⟩
      have B1 := Lib.hid ((((Below.refl w.heap.size w).alloc (Nat.le_refl _) _).alloc (by simp <;> omega) _).trans (hb1.mono (by first | assumption | (simp <;> omega) | (simp; done))))
      have Z1 := Lib.hid (row_call hb1 (row_alloc (heap_alloc_new _ _) _))
      have T1 := Lib.hid (row_at (k' := w.heap.size + 1) (by simp) (row_call hb1 (heap_alloc_new _ _)))
      clear hb1
      have Z1_0 : V1.cell? ⟨w.heap.size, 0, none⟩ = some (.int .i64 0) := cell_of_row _ _ _ _ _ _ Z1.out
      have Z1_1 : V1.cell? ⟨w.heap.size, 1, none⟩ = some (.bool false) := cell_of_row _ _ _ _ _ _ Z1.out
      have Z1_2 : V1.cell? ⟨w.heap.size, 2, none⟩ = some (.string ⟨#[]⟩) := cell_of_row _ _ _ _ _ _ Z1.out
      have Z1_f0 : V1.frozen? ⟨w.heap.size, 0, none⟩ = false := by simp [World.frozen?, Z1.out]
      have Z1_f1 : V1.frozen? ⟨w.heap.size, 1, none⟩ = false := by simp [World.frozen?, Z1.out]
      have Z1_f2 : V1.frozen? ⟨w.heap.size, 2, none⟩ = false := by simp [World.frozen?, Z1.out]
      have T1_0 : V1.cell? ⟨w.heap.size + 1, 0, none⟩ = some (.int .i64 0) := cell_of_row _ _ _ _ _ _ T1.out
      have T1_1 : V1.cell? ⟨w.heap.size + 1, 1, none⟩ = some (.bool false) := cell_of_row _ _ _ _ _ _ T1.out
      have T1_2 : V1.cell? ⟨w.heap.size + 1, 2, none⟩ = some (.string ⟨#[]⟩) := cell_of_row _ _ _ _ _ _ T1.out
      have T1_f0 : V1.frozen? ⟨w.heap.size + 1, 0, none⟩ = false := by simp [World.frozen?, T1.out]
      have T1_f1 : V1.frozen? ⟨w.heap.size + 1, 1, none⟩ = false := by simp [World.frozen?, T1.out]
      have T1_f2 : V1.frozen? ⟨w.heap.size + 1, 2, none⟩ = false := by simp [World.frozen?, T1.out]
      have zZ1 := lt_of_heap Z1.out
      have zT1 := lt_of_heap T1.out
      go_simp
      go_wp2_with fail
      refine (H2.out _).mono ?_
      rintro e V2 ⟨rfl, hb2⟩
      clear Z1_0 Z1_1 Z1_2 Z1_f0 Z1_f1 Z1_f2 zZ1 T1_0 T1_1 T1_2 T1_f0 T1_f1 T1_f2 zT1
      have B2 : Hid (Below w.heap.size w V2) := by first | exact Lib.hid ((B1.out).trans (hb2.mono (by have := B1.out.size; first | assumption | (simp <;> omega) | (simp; done)))) | exact Lib.hid (((B1.out).alloc (B1.out.size) _).trans (hb2.mono (by have := B1.out.size; first | assumption | (simp <;> omega) | (simp; done)))) | exact Lib.hid ((((B1.out).alloc (B1.out.size) _).alloc (by have := B1.out.size; simp <;> omega) _).trans (hb2.mono (by have := B1.out.size; first | assumption | (simp <;> omega) | (simp; done)))) | exact Lib.hid (((((B1.out).alloc (B1.out.size) _).alloc (by have := B1.out.size; simp <;> omega) _).alloc (by have := B1.out.size; simp <;> omega) _).trans (hb2.mono (by have := B1.out.size; first | assumption | (simp <;> omega) | (simp; done))))
      first | replace Z1 := Lib.hid (row_call hb2 Z1.out) | replace Z1 := Lib.hid (row_call hb2 (row_alloc Z1.out _)) | replace Z1 := Lib.hid (row_call hb2 (row_alloc (row_alloc Z1.out _) _)) | replace Z1 := Lib.hid (row_call hb2 (row_alloc (row_alloc (row_alloc Z1.out _) _) _))
      first | replace T1 := Lib.hid (row_call hb2 T1.out) | replace T1 := Lib.hid (row_call hb2 (row_alloc T1.out _)) | replace T1 := Lib.hid (row_call hb2 (row_alloc (row_alloc T1.out _) _)) | replace T1 := Lib.hid (row_call hb2 (row_alloc (row_alloc (row_alloc T1.out _) _) _))
      clear hb2
      have Z1_0 : V2.cell? ⟨w.heap.size, 0, none⟩ = some (.int .i64 0) := cell_of_row _ _ _ _ _ _ Z1.out
      have Z1_1 : V2.cell? ⟨w.heap.size, 1, none⟩ = some (.bool false) := cell_of_row _ _ _ _ _ _ Z1.out
      have Z1_2 : V2.cell? ⟨w.heap.size, 2, none⟩ = some (.string ⟨#[]⟩) := cell_of_row _ _ _ _ _ _ Z1.out
      have Z1_f0 : V2.frozen? ⟨w.heap.size, 0, none⟩ = false := by simp [World.frozen?, Z1.out]
      have Z1_f1 : V2.frozen? ⟨w.heap.size, 1, none⟩ = false := by simp [World.frozen?, Z1.out]
      have Z1_f2 : V2.frozen? ⟨w.heap.size, 2, none⟩ = false := by simp [World.frozen?, Z1.out]
      have T1_0 : V2.cell? ⟨w.heap.size + 1, 0, none⟩ = some (.int .i64 0) := cell_of_row _ _ _ _ _ _ T1.out
      have T1_1 : V2.cell? ⟨w.heap.size + 1, 1, none⟩ = some (.bool false) := cell_of_row _ _ _ _ _ _ T1.out
      have T1_2 : V2.cell? ⟨w.heap.size + 1, 2, none⟩ = some (.string ⟨#[]⟩) := cell_of_row _ _ _ _ _ _ T1.out
      have T1_f0 : V2.frozen? ⟨w.heap.size + 1, 0, none⟩ = false := by simp [World.frozen?, T1.out]
      have T1_f1 : V2.frozen? ⟨w.heap.size + 1, 1, none⟩ = false := by simp [World.frozen?, T1.out]
      have T1_f2 : V2.frozen? ⟨w.heap.size + 1, 2, none⟩ = false := by simp [World.frozen?, T1.out]
      have zZ1 := lt_of_heap Z1.out
      have zT1 := lt_of_heap T1.out
      have k1 : V2.cell? ⟨b, o + 1, none⟩ = some (.string (bs y)) := (B2.out.cell (p := ⟨b, o + 1, none⟩) hb).trans K1.out
      go_simp
      go_wp2_with fail
      refine (H3.out _).mono ?_
      rintro e V3 ⟨rfl, hb3⟩
      clear Z1_0 Z1_1 Z1_2 Z1_f0 Z1_f1 Z1_f2 zZ1 T1_0 T1_1 T1_2 T1_f0 T1_f1 T1_f2 zT1
      have B3 : Hid (Below w.heap.size w V3) := by first | exact Lib.hid ((keep1 (B2.out) (by omega) 0 _).trans (hb3.mono (by have := B2.out.size; first | assumption | (simp <;> omega) | (simp; done)))) | exact Lib.hid (((keep1 (B2.out) (by omega) 0 _).alloc (by have := B2.out.size; simp <;> omega) _).trans (hb3.mono (by have := B2.out.size; first | assumption | (simp <;> omega) | (simp; done)))) | exact Lib.hid ((((keep1 (B2.out) (by omega) 0 _).alloc (by have := B2.out.size; simp <;> omega) _).alloc (by have := B2.out.size; simp <;> omega) _).trans (hb3.mono (by have := B2.out.size; first | assumption | (simp <;> omega) | (simp; done)))) | exact Lib.hid (((((keep1 (B2.out) (by omega) 0 _).alloc (by have := B2.out.size; simp <;> omega) _).alloc (by have := B2.out.size; simp <;> omega) _).alloc (by have := B2.out.size; simp <;> omega) _).trans (hb3.mono (by have := B2.out.size; first | assumption | (simp <;> omega) | (simp; done))))
      first | replace Z1 := Lib.hid (row_call hb3 (row_other1 (by omega) Z1.out 0 _)) | replace Z1 := Lib.hid (row_call hb3 (row_alloc (row_other1 (by omega) Z1.out 0 _) _)) | replace Z1 := Lib.hid (row_call hb3 (row_alloc (row_alloc (row_other1 (by omega) Z1.out 0 _) _) _)) | replace Z1 := Lib.hid (row_call hb3 (row_alloc (row_alloc (row_alloc (row_other1 (by omega) Z1.out 0 _) _) _) _))
      first | replace T1 : Hid (V3.heap[w.heap.size + 1]? = some (.cells #[.int .i64 ov, .bool false, .string ⟨#[]⟩] _ (0, 0))) := Lib.hid (row_call hb3 (row_set1 T1.out 0 _)) | replace T1 : Hid (V3.heap[w.heap.size + 1]? = some (.cells #[.int .i64 ov, .bool false, .string ⟨#[]⟩] _ (0, 0))) := Lib.hid (row_call hb3 (row_alloc (row_set1 T1.out 0 _) _)) | replace T1 : Hid (V3.heap[w.heap.size + 1]? = some (.cells #[.int .i64 ov, .bool false, .string ⟨#[]⟩] _ (0, 0))) := Lib.hid (row_call hb3 (row_alloc (row_alloc (row_set1 T1.out 0 _) _) _)) | replace T1 : Hid (V3.heap[w.heap.size + 1]? = some (.cells #[.int .i64 ov, .bool false, .string ⟨#[]⟩] _ (0, 0))) := Lib.hid (row_call hb3 (row_alloc (row_alloc (row_alloc (row_set1 T1.out 0 _) _) _) _))
      clear hb3
      have Z1_0 : V3.cell? ⟨w.heap.size, 0, none⟩ = some (.int .i64 0) := cell_of_row _ _ _ _ _ _ Z1.out
      have Z1_1 : V3.cell? ⟨w.heap.size, 1, none⟩ = some (.bool false) := cell_of_row _ _ _ _ _ _ Z1.out
      have Z1_2 : V3.cell? ⟨w.heap.size, 2, none⟩ = some (.string ⟨#[]⟩) := cell_of_row _ _ _ _ _ _ Z1.out
      have Z1_f0 : V3.frozen? ⟨w.heap.size, 0, none⟩ = false := by simp [World.frozen?, Z1.out]
      have Z1_f1 : V3.frozen? ⟨w.heap.size, 1, none⟩ = false := by simp [World.frozen?, Z1.out]
      have Z1_f2 : V3.frozen? ⟨w.heap.size, 2, none⟩ = false := by simp [World.frozen?, Z1.out]
      have T1_0 : V3.cell? ⟨w.heap.size + 1, 0, none⟩ = some (.int .i64 ov) := cell_of_row _ _ _ _ _ _ T1.out
      have T1_1 : V3.cell? ⟨w.heap.size + 1, 1, none⟩ = some (.bool false) := cell_of_row _ _ _ _ _ _ T1.out
      have T1_2 : V3.cell? ⟨w.heap.size + 1, 2, none⟩ = some (.string ⟨#[]⟩) := cell_of_row _ _ _ _ _ _ T1.out
      have T1_f0 : V3.frozen? ⟨w.heap.size + 1, 0, none⟩ = false := by simp [World.frozen?, T1.out]
      have T1_f1 : V3.frozen? ⟨w.heap.size + 1, 1, none⟩ = false := by simp [World.frozen?, T1.out]
      have T1_f2 : V3.frozen? ⟨w.heap.size + 1, 2, none⟩ = false := by simp [World.frozen?, T1.out]
      have zZ1 := lt_of_heap Z1.out
      have zT1 := lt_of_heap T1.out
      have k2 : V3.cell? ⟨b, o + 2, none⟩ = some (.string (bs z)) := (B3.out.cell (p := ⟨b, o + 2, none⟩) hb).trans K2.out
      clear k1
      go_simp
      go_wp2_with fail
      have B9 := Lib.hid (keep1 (k := w.heap.size + 1) B3.out (by omega) 1 (.bool d))
      refine (H4.out _).mono ?_
      rintro e w9 ⟨rfl, hb9⟩
      exact ⟨rfl, rfl, B9.out.trans (hb9.mono B9.out.size)⟩
def tailP (l : List Lin) : Nat := (l.filter (fun x => x.k == 2 && x.t == 1048576)).length
theorem tailP_len (l : List Lin) : tailP l ≤ l.length := List.length_filter_le _ _
theorem tailP_take {l : List Lin} {k : Nat} (h : k < l.length) : tailP (l.take (k + 1)) = tailP (l.take k) + (if l[k].k = 2 ∧ l[k].t = 1048576 then 1 else 0) := by
  rw [List.take_succ_eq_append_getElem h]
  unfold tailP
  rw [List.filter_append, List.length_append]
  congr 1
  by_cases h2 : l[k].k = 2 ∧ l[k].t = 1048576
  · rw [if_pos h2, List.filter_cons_of_pos (by simp [h2.1, h2.2])]; rfl
  · rw [if_neg h2, List.filter_cons_of_neg (by simpa using h2)]; rfl
theorem tail_eq {l : List Lin} (h : ∀ x ∈ l, OkL x) : tailP l = tailN l := by
  unfold tailP tailN
  congr 1
  apply List.filter_congr
  intro x hx
  obtain ⟨h1, _⟩ := h x hx
  rcases h1 with ⟨a, _, b, _⟩ | ⟨a, _⟩
  · rw [a, b]; rfl
  · rw [a]; rfl
set_option maxHeartbeats 3200000 in
set_option maxRecDepth 100000 in
theorem pTails_any (T : List Lin) (A : Option Addr) (c : Nat) (w : World) (hl : T.length ≤ 1000000000000) (hA : Rd w A (linVs T)) : Calls Tryz.prog 17 #[.slice A T.length c] w fun e w' => e = .returned (.int .i64 (tailP T : Int)) ∧ Below w.heap.size w w' := by
  have HA := Lib.hid hA
  clear hA
  go_enter Tryz.func17, Tryz.ntmps17
  go_wp2
  go_loopw [3, 8] (fun n i wr => ∃ k : Nat, k ≤ T.length ∧ i = .int .i64 (k : Int) ∧ n = .int .i64 (tailP (T.take k) : Int) ∧ Below w.heap.size w wr) (fun _ i _ => T.length - (intOf i).toNat)
  case atStart => exact ⟨0, by omega, rfl, rfl, Below.refl _ _⟩
  case round =>
    obtain ⟨k, hk, rfl, rfl, hB1⟩ := hrel
    obtain ⟨V20, rfl⟩ : ∃ V, V = wr := ⟨_, rfl⟩
    have hR := HA.out.below hB1 (Nat.le_refl _)
    have B20 := Lib.hid hB1
    clear hB1
    by_cases hlt : k < T.length
    · obtain ⟨b, o, rfl, hb, hc⟩ := hR.lin hlt
      obtain ⟨a0, a1, a2, a3, a4, a5, a6, a7, a8, a9, a10, a11, a12⟩ := hc k hlt
      have E := tailP_take hlt
      have hbd := tailP_len (T.take k)
      rw [List.length_take] at hbd
      clear hc hR HA
      generalize T[k] = l at *
      generalize hN : T.length = N at *
      obtain ⟨l0, l1, l2, l3, l4, l5, l6, l7, l8, l9, l10, l11, l12⟩ := l
      simp only at *
      have hw : IntKind.i64.wrap ((tailP (T.take k) : Int) + 1) = (tailP (T.take k) : Int) + 1 := wrap_small _ (by omega) (by omega)
      by_cases h1 : l0 = 2
      · subst h1
        by_cases h2 : l3 = 1048576
        · subst h2
          rw [if_pos ⟨rfl, rfl⟩] at E
          replace E := Lib.hid E
          generalize tailP (T.take k) = q at *
          
          go_wp2
          go_roundw
          case rel => exact ⟨k + 1, by omega, by go_num, by rw [E.out]; go_num, B20.out.alloc B20.out.size _⟩
          case measure => simp [intOf]; omega
        · rw [if_neg (fun e => h2 e.2)] at E
          have q2 : (l3 == 1048576) = false := beq_false_of_ne h2
          replace E := Lib.hid E
          replace h2 := Lib.hid h2
          generalize tailP (T.take k) = q at *
          
          go_wp2
          go_roundw
          case rel => exact ⟨k + 1, by omega, by go_num, by rw [E.out]; rfl, B20.out.alloc B20.out.size _⟩
          case measure => simp [intOf]; omega
      · rw [if_neg (fun e => h1 e.1)] at E
        have q1 : (l0 == 2) = false := beq_false_of_ne h1
        replace E := Lib.hid E
        replace h1 := Lib.hid h1
        generalize tailP (T.take k) = q at *
        
        go_wp2
        go_roundw
        case rel => exact ⟨k + 1, by omega, by go_num, by rw [E.out]; rfl, B20.out.alloc B20.out.size _⟩
        case measure => simp [intOf]; omega
    · obtain rfl : k = T.length := by omega
      have E : Hid (tailP (T.take T.length) = tailP T) := Lib.hid (by rw [List.take_length])
      clear hR HA
      
      go_wp2
      go_ret
      exact ⟨by rw [← E.out]; rfl, B20.out⟩
end Go.Proofs.YteinjdmkmfeniaaGreatDoor
namespace Go.Proofs.YteinjdmkmfeniaaGreatDoor
set_option linter.unusedVariables false
set_option linter.unusedSimpArgs false
open Go.ChangeShapes Go.WideShapes Go.ChangeAt Go.RowKit
def linC (l : Lin) : Array Value := #[.int .i64 l.k, .int .i64 l.s, .int .i64 l.f, .int .i64 l.t, .int .i64 l.m, .int .i64 l.dk, .int .i64 l.dn, .int .i64 l.dw, .int .i64 l.ti, .int .i64 l.rd, .int .i64 l.off, .bool l.dst, .string (bs l.abb)]
theorem linC0 : linC lin0 = #[.int .i64 0, .int .i64 0, .int .i64 0, .int .i64 0, .int .i64 0, .int .i64 0, .int .i64 0, .int .i64 0, .int .i64 0, .int .i64 0, .int .i64 0, .bool false, .string ⟨#[]⟩] := by
  unfold linC lin0
  rw [bs_empty]
structure LiH (w0 w : World) (l : Lin) : Prop where
  z : w.heap[w0.heap.size]? = some (.cells (linC lin0) 41 (0, 0))
  row : w.heap[w0.heap.size + 1]? = some (.cells (linC l) 41 (0, 0))
  bel : Below w0.heap.size w0 w
section
variable {w0 w w' : World} {l : Lin}
theorem LiH.lt (h : LiH w0 w l) : w0.heap.size + 1 < w.heap.size := (Array.getElem?_eq_some_iff.1 h.row).1
theorem LiH.call (h : LiH w0 w l) (hb : Below w.heap.size w w') : LiH w0 w' l :=
  ⟨(hb.block _ (by have := h.lt; omega)).trans h.z, (hb.block _ h.lt).trans h.row, h.bel.trans (hb.mono h.bel.size)⟩
theorem LiH.set (h : LiH w0 w l) (j : Nat) (a : Value) (l' : Lin) (hr : (linC l).setIfInBounds j a = linC l') : LiH w0 (w.setCell ⟨w0.heap.size + 1, j, none⟩ a) l' :=
  ⟨row_other1 (by omega) h.z j a, by rw [row_set1 h.row, hr], h.bel.setCell (by show w0.heap.size ≤ w0.heap.size + 1; omega) _⟩
theorem LiH.set3 (h : LiH w0 w l) (j : Nat) (a b c : Value) (l' : Lin) (hr : (((linC l).setIfInBounds j a).setIfInBounds (j + 1) b).setIfInBounds (j + 2) c = linC l') : LiH w0 (((w.setCell ⟨w0.heap.size + 1, j, none⟩ a).setCell ⟨w0.heap.size + 1, j + 1, none⟩ b).setCell ⟨w0.heap.size + 1, j + 2, none⟩ c) l' :=
  ⟨row_other1 (by omega) (row_other1 (by omega) (row_other1 (by omega) h.z j a) _ _) _ _, by rw [row_set1 (row_set1 (row_set1 h.row j a) _ _) _ _, hr],
    ((h.bel.setCell (by show w0.heap.size ≤ w0.heap.size + 1; omega) _).setCell (by show w0.heap.size ≤ w0.heap.size + 1; omega) _).setCell (by show w0.heap.size ≤ w0.heap.size + 1; omega) _⟩
theorem LiH.fz (h : LiH w0 w l) (j : Nat) : w.frozen? ⟨w0.heap.size + 1, j, none⟩ = false := Lib.frozen_of_heap h.row j
theorem LiH.at_ (h : LiH w0 w l) (j : Nat) (hj : j < 13) : w.cell? ⟨w0.heap.size + 1, j, none⟩ = (linC l)[j]? := by rw [Lib.cell_of_heap h.row]
end
theorem li_new (w : World) (l : Lin) : LiH w (((w.alloc (.cells (linC lin0) 41)).alloc (.cells (linC lin0) 41)).setRow (w.heap.size + 1) (linC l)) l := by
  refine ⟨row_otherR (by omega) (row_alloc (heap_alloc_new w _) _) _, ?_, keepRow (((Below.refl _ w).alloc (Nat.le_refl _) _).alloc (by simp) _) (by omega) _⟩
  exact setRow_heap _ _ _ _ _ _ (by have := heap_alloc_new (w.alloc (.cells (linC lin0) 41)) (.cells (linC lin0) 41); simpa using this)
theorem li_store {P : Program} {ops : Array Oper} {rest : List Oper} {o : Oper} {a : Act} {w : World} {Q : Exit → Act → World → Prop} (hgd : o.guard = none) (x y : Operand) (ho : o.op = .store 41 x y) (l : Lin) (hi : (P.info? 41).map (·.size) = some 13)
    (hx : a.eval x = .pointer (some ⟨w.heap.size + 1, 0, none⟩)) (hy : a.eval y = .agg (linC l)) (h : ∀ W, LiH w W l → wpList P ops Q rest (a.put o.dst undef) W) :
    wpList P ops Q (o :: rest) a ((w.alloc (.cells #[.int .i64 0, .int .i64 0, .int .i64 0, .int .i64 0, .int .i64 0, .int .i64 0, .int .i64 0, .int .i64 0, .int .i64 0, .int .i64 0, .int .i64 0, .bool false, .string ⟨#[]⟩] 41)).alloc (.cells #[.int .i64 0, .int .i64 0, .int .i64 0, .int .i64 0, .int .i64 0, .int .i64 0, .int .i64 0, .int .i64 0, .int .i64 0, .int .i64 0, .int .i64 0, .bool false, .string ⟨#[]⟩] 41)) := by
  have N := li_new w l
  have r := heap_alloc_new (w.alloc (.cells (linC lin0) 41)) (.cells (linC lin0) 41)
  rw [show (w.alloc (.cells (linC lin0) 41)).heap.size = w.heap.size + 1 by simp] at r
  rw [linC0] at N r
  exact wpList_store_row hgd _ x y ho _ _ hx hy _ _ r hi rfl (by simp [linC, Value.oneCell']) (h _ N)
theorem li_shut {P : Program} {ops : Array Oper} {rest : List Oper} {o : Oper} {a : Act} {w W : World} {Q : Exit → Act → World → Prop} (hgd : o.guard = none) (x y : Operand) (ho : o.op = .store 41 x y) {l : Lin} (hi : (P.info? 41).map (·.size) = some 13)
    (hx : a.eval x = .pointer (some ⟨w.heap.size, 0, none⟩)) (hy : a.eval y = .agg (linC l)) (H : LiH w W l) (h : ∀ W', W'.heap[w.heap.size]? = some (.cells (linC l) 41 (0, 0)) → Below w.heap.size w W' → wpList P ops Q rest (a.put o.dst undef) W') : wpList P ops Q (o :: rest) a W :=
  wpList_store_row hgd _ x y ho _ _ hx hy _ _ H.z hi rfl (by simp [linC, Value.oneCell']) (h _ (setRow_heap _ _ _ _ _ _ H.z) (keepRow H.bel (Nat.le_refl _) _))
theorem li_cells {w : World} {b : Nat} {l : Lin} (h : w.heap[b]? = some (.cells (linC l) 41 (0, 0))) :
    w.cell? ⟨b, 0, none⟩ = some (.int .i64 l.k) ∧ w.cell? ⟨b, 1, none⟩ = some (.int .i64 l.s) ∧ w.cell? ⟨b, 2, none⟩ = some (.int .i64 l.f) ∧ w.cell? ⟨b, 3, none⟩ = some (.int .i64 l.t) ∧ w.cell? ⟨b, 4, none⟩ = some (.int .i64 l.m) ∧ w.cell? ⟨b, 5, none⟩ = some (.int .i64 l.dk) ∧ w.cell? ⟨b, 6, none⟩ = some (.int .i64 l.dn) ∧ w.cell? ⟨b, 7, none⟩ = some (.int .i64 l.dw) ∧ w.cell? ⟨b, 8, none⟩ = some (.int .i64 l.ti) ∧ w.cell? ⟨b, 9, none⟩ = some (.int .i64 l.rd) ∧ w.cell? ⟨b, 10, none⟩ = some (.int .i64 l.off) ∧ w.cell? ⟨b, 11, none⟩ = some (.bool l.dst) ∧ w.cell? ⟨b, 12, none⟩ = some (.string (bs l.abb)) := by
  refine ⟨?_, ?_, ?_, ?_, ?_, ?_, ?_, ?_, ?_, ?_, ?_, ?_, ?_⟩ <;> (rw [Lib.cell_of_heap h]; rfl)
set_option maxHeartbeats 1600000 in
set_option maxRecDepth 100000 in
theorem pOnce_ok (x0 x1 x2 x3 x4 : List UInt8) (h0 : x0 = atW) (m1 : x1.length ≤ 100000) (m2 : x2.length ≤ 100000) (m4 : x4.length ≤ 100000) (A : Option Addr) (c : Nat) (hc : 5 ≤ c) (w : World) (hK : KX w) (hR : Rd w A ([x0, x1, x2, x3, x4].map strV)) (hE : aliE [x0, x1, x2, x3, x4] = 0) :
    Calls Tryz.prog 78 #[.slice A 5 c] w fun e w' => e = .returned (linA (aliL [x0, x1, x2, x3, x4])) ∧ Below w.heap.size w w' := by
  obtain ⟨b, o, rfl, hb, hcell⟩ := hR.wrd (k := 0) (by simp)
  have k1 : w.cell? ⟨b, o + 1, none⟩ = some (.string (bs x1)) := hcell 1 (by simp)
  have k2 : w.cell? ⟨b, o + 2, none⟩ = some (.string (bs x2)) := hcell 2 (by simp)
  have k3 : w.cell? ⟨b, o + 3, none⟩ = some (.string (bs x3)) := hcell 3 (by simp)
  have k4 : w.cell? ⟨b, o + 4, none⟩ = some (.string (bs x4)) := hcell 4 (by simp)
  have hm : (momR x1).2 = 0 := by
    unfold aliE at hE
    rw [if_neg (by simp)] at hE
    split at hE
    · rename_i h; exact absurd hE h
    · rename_i h; exact Classical.not_not.1 h
  have ht : (triR x2 x3 x4).2.2.2 = 0 := by
    unfold aliE at hE
    rw [if_neg (by simp), if_neg (show ¬ (momR (wd [x0, x1, x2, x3, x4] 1)).2 ≠ 0 from fun h => h hm)] at hE
    exact hE
  have hL : aliL [x0, x1, x2, x3, x4] = ⟨1, (momR x1).1, 0, 0, 0, 0, 0, 0, 0, 0, (triR x2 x3 x4).1, (triR x2 x3 x4).2.1, (triR x2 x3 x4).2.2.1⟩ := rfl
  have X1 := pMom_any x1 m1
  rw [hm] at X1
  have HM := Lib.hid X1
  have HS := Lib.hid (fun w => grow3 (pSureInt_ok (momR x1).1 w))
  have HX : Hid (∀ W, Below w.heap.size w W → Calls Tryz.prog 60 #[.slice (some ⟨b, o, none⟩) 5 c, .string ⟨#[97, 116]⟩, .int .i64 5] W fun e w' => e = .returned (.tuple #[]) ∧ W = w') := Lib.hid (fun W hW => by
    have := pExpect_ok [x0, x1, x2, x3, x4] atW 5 _ c W (hR.below hW (Nat.le_refl _)) rfl (by decide) h0
    rwa [lit_of #[97, 116] atW rfl] at this)
  have HT : Hid (∀ W, Below w.heap.size w W → Calls Tryz.prog 94 #[.slice (some ⟨b, o + 2, none⟩) 3 (c - 2)] W fun e w' => e = .returned (.agg #[.int .i64 (triR x2 x3 x4).1, .bool (triR x2 x3 x4).2.1, .string (bs (triR x2 x3 x4).2.2.1)]) ∧ Below W.heap.size W w') := Lib.hid (fun W hW => by
    have g : ∀ j u, w.cell? ⟨b, j, none⟩ = some u → W.cell? ⟨b, j, none⟩ = some u := fun j u hu => (hW.cell (p := ⟨b, j, none⟩) hb).trans hu
    exact pTriple_ok x2 x3 x4 m2 m4 3 (c - 2) W b (o + 2) (Nat.le_refl _) (by have := hW.size; omega) (g _ _ k2) (g _ _ k3) (g _ _ k4) ht)
  have hTw := Lib.hid hK.tw
  rw [hL]
  have K1 := Lib.hid k1
  clear hcell hR hE hL m1 m2 m4 h0 hm ht X1 hK k1 k2 k3 k4
  generalize momR x1 = mm at *
  generalize triR x2 x3 x4 = tt at *
  obtain ⟨mv, me⟩ := mm
  obtain ⟨t0, t1, t2, te⟩ := tt
  simp only at HM HT HS ⊢
  go_enter Tryz.func78, Tryz.ntmps78
  refine wp_shut ?_
  go_wp2_with fail
  refine (HX.out _ ((Below.refl _ w).alloc (Nat.le_refl _) _)).mono ?_
  rintro e w1 ⟨rfl, rfl⟩
  go_wp2_with (first | (refine li_store (by rfl) _ _ (by rfl) ⟨1, 0, 0, 0, 0, 0, 0, 0, 0, 0, 0, false, []⟩ (by kernel_rfl) (by rfl) (by unfold linC; rw [bs_empty]; rfl) ?_; intro W1 N1; refine Hid.out ?_) | fail)
  refine Lib.hid ?_
  have g1 : W1.cell? ⟨b, o + 1, none⟩ = some (.string (bs x1)) := (N1.bel.cell (p := ⟨b, o + 1, none⟩) hb).trans K1.out
  have f1 := N1.fz 1
  replace N1 := Lib.hid N1
  go_wp2_with fail
  refine (HM.out _ (tw_keep hTw N1.out.bel)).mono ?_
  rintro e w2 ⟨rfl, hb2⟩
  replace N1 := Lib.hid (N1.out.call hb2)
  clear hb2 g1 f1
  go_wp2_with fail
  refine (HS.out _).mono ?_
  rintro e w3 ⟨rfl, hb3⟩
  replace N1 := Lib.hid (N1.out.call hb3)
  have N2 := Lib.hid (N1.out.set 1 (.int .i64 mv) ⟨1, mv, 0, 0, 0, 0, 0, 0, 0, 0, 0, false, []⟩ rfl)
  have f1 := N1.out.fz 1
  have c1 := N1.out.at_ 1 (by decide)
  have c1' : w3.cell? ⟨w.heap.size + 1, 1, none⟩ = some (.int .i64 0) := c1
  clear hb3 c1
  go_wp2_with fail
  refine (HT.out _ N2.out.bel).mono ?_
  rintro e w4 ⟨rfl, hb4⟩
  replace N2 := Lib.hid (N2.out.call hb4)
  have N3 := Lib.hid (N2.out.set3 10 (.int .i64 t0) (.bool t1) (.string (bs t2)) ⟨1, mv, 0, 0, 0, 0, 0, 0, 0, 0, t0, t1, t2⟩ rfl)
  have f10 := N2.out.fz 10
  have f11 := N2.out.fz 11
  have f12 := N2.out.fz 12
  have c10 : w4.cell? ⟨w.heap.size + 1, 10, none⟩ = some (.int .i64 0) := N2.out.at_ 10 (by decide)
  have c11 : w4.cell? ⟨w.heap.size + 1, 11, none⟩ = some (.bool false) := N2.out.at_ 11 (by decide)
  have c12 : w4.cell? ⟨w.heap.size + 1, 12, none⟩ = some (.string (bs [])) := N2.out.at_ 12 (by decide)
  obtain ⟨r0, r1, r2, r3, r4, r5, r6, r7, r8, r9, r10, r11, r12⟩ := li_cells N3.out.row
  simp only at r0 r1 r2 r3 r4 r5 r6 r7 r8 r9 r10 r11 r12
  clear hb4 N1 f1 c1'
  go_wp2_with (first | (refine li_shut (by rfl) _ _ (by rfl) (by kernel_rfl) (by rfl) (by rfl) N3.out ?_; intro W5 z5 B5; refine Hid.out ?_) | fail)
  refine Lib.hid ?_
  obtain ⟨q0, q1, q2, q3, q4, q5, q6, q7, q8, q9, q10, q11, q12⟩ := li_cells z5
  simp only at q0 q1 q2 q3 q4 q5 q6 q7 q8 q9 q10 q11 q12
  replace B5 := Lib.hid B5
  clear r0 r1 r2 r3 r4 r5 r6 r7 r8 r9 r10 r11 r12 f10 f11 f12 c10 c11 c12 z5
  go_wp2
  refine shut_ret (v := linA ⟨1, mv, 0, 0, 0, 0, 0, 0, 0, 0, t0, t1, t2⟩) (by simp [linA, results, Tryz.results78, go_sem, q0, q1, q2, q3, q4, q5, q6, q7, q8, q9, q10, q11, q12]) rfl ⟨rfl, B5.out⟩
theorem ali_no {x0 x1 x2 x3 x4 : List UInt8} : aliE [x0, x1, x2, x3, x4] = if (momR x1).2 ≠ 0 then (momR x1).2 else (triR x2 x3 x4).2.2.2 := by unfold aliE; rw [if_neg (by simp)]; rfl
set_option maxHeartbeats 1600000 in
set_option maxRecDepth 100000 in
theorem pOnce_no (x0 x1 x2 x3 x4 : List UInt8) (h0 : x0 = atW) (m1 : x1.length ≤ 100000) (m2 : x2.length ≤ 100000) (m4 : x4.length ≤ 100000) (A : Option Addr) (c : Nat) (hc : 5 ≤ c) (w : World) (hK : KX w) (hR : Rd w A ([x0, x1, x2, x3, x4].map strV)) (hE : aliE [x0, x1, x2, x3, x4] ≠ 0) :
    Calls Tryz.prog 78 #[.slice A 5 c] w fun e w' => e = pan (aliE [x0, x1, x2, x3, x4]) ∧ Below w.heap.size w w' := by
  rw [ali_no] at hE ⊢
  obtain ⟨b, o, rfl, hb, hcell⟩ := hR.wrd (k := 0) (by simp)
  have k1 : w.cell? ⟨b, o + 1, none⟩ = some (.string (bs x1)) := hcell 1 (by simp)
  have k2 : w.cell? ⟨b, o + 2, none⟩ = some (.string (bs x2)) := hcell 2 (by simp)
  have k3 : w.cell? ⟨b, o + 3, none⟩ = some (.string (bs x3)) := hcell 3 (by simp)
  have k4 : w.cell? ⟨b, o + 4, none⟩ = some (.string (bs x4)) := hcell 4 (by simp)
  have HM := Lib.hid (pMom_any x1 m1)
  have HX : Hid (∀ W, Below w.heap.size w W → Calls Tryz.prog 60 #[.slice (some ⟨b, o, none⟩) 5 c, .string ⟨#[97, 116]⟩, .int .i64 5] W fun e w' => e = .returned (.tuple #[]) ∧ W = w') := Lib.hid (fun W hW => by
    have := pExpect_ok [x0, x1, x2, x3, x4] atW 5 _ c W (hR.below hW (Nat.le_refl _)) rfl (by decide) h0
    rwa [lit_of #[97, 116] atW rfl] at this)
  have HT : Hid (∀ W, Below w.heap.size w W → (triR x2 x3 x4).2.2.2 ≠ 0 → Calls Tryz.prog 94 #[.slice (some ⟨b, o + 2, none⟩) 3 (c - 2)] W fun e w' => e = pan (triR x2 x3 x4).2.2.2 ∧ Below W.heap.size W w') := Lib.hid (fun W hW ht => by
    have g : ∀ j u, w.cell? ⟨b, j, none⟩ = some u → W.cell? ⟨b, j, none⟩ = some u := fun j u hu => (hW.cell (p := ⟨b, j, none⟩) hb).trans hu
    exact pTriple_no x2 x3 x4 m2 m4 3 (c - 2) W b (o + 2) (Nat.le_refl _) (by have := hW.size; omega) (g _ _ k2) (g _ _ k3) (g _ _ k4) ht)
  have hTw := Lib.hid hK.tw
  have K1 := Lib.hid k1
  clear hcell hR m1 m2 m4 h0 hK k1 k2 k3 k4
  generalize momR x1 = mm at *
  generalize triR x2 x3 x4 = tt at *
  obtain ⟨mv, me⟩ := mm
  obtain ⟨t0, t1, t2, te⟩ := tt
  simp only at HM HT hE ⊢
  by_cases hm : me ≠ 0
  · rw [if_pos hm] at hE ⊢
    have HS := Lib.hid (fun w => grow3 (pSureInt_no mv _ hm w))
    clear HT hE
    replace hm := Lib.hid hm
    go_enter Tryz.func78, Tryz.ntmps78
    refine wp_shut ?_
    go_wp2_with fail
    refine (HX.out _ ((Below.refl _ w).alloc (Nat.le_refl _) _)).mono ?_
    rintro e w1 ⟨rfl, rfl⟩
    go_wp2_with (first | (refine li_store (by rfl) _ _ (by rfl) ⟨1, 0, 0, 0, 0, 0, 0, 0, 0, 0, 0, false, []⟩ (by kernel_rfl) (by rfl) (by unfold linC; rw [bs_empty]; rfl) ?_; intro W1 N1; refine Hid.out ?_) | fail)
    refine Lib.hid ?_
    have g1 : W1.cell? ⟨b, o + 1, none⟩ = some (.string (bs x1)) := (N1.bel.cell (p := ⟨b, o + 1, none⟩) hb).trans K1.out
    have f1 := N1.fz 1
    replace N1 := Lib.hid N1
    go_wp2_with fail
    refine (HM.out _ (tw_keep hTw N1.out.bel)).mono ?_
    rintro e w2 ⟨rfl, hb2⟩
    replace N1 := Lib.hid (N1.out.call hb2)
    clear hb2 g1 f1
    go_wp2_with fail
    refine (HS.out _).mono ?_
    rintro e w3 ⟨rfl, hb3⟩
    exact ⟨rfl, rfl, (N1.out.call hb3).bel⟩
  · rw [if_neg hm] at hE ⊢
    rw [Classical.not_not.1 hm] at HM
    have HS := Lib.hid (fun w => grow3 (pSureInt_ok mv w))
    replace HT : Hid (∀ W, Below w.heap.size w W → Calls Tryz.prog 94 #[.slice (some ⟨b, o + 2, none⟩) 3 (c - 2)] W fun e w' => e = pan te ∧ Below W.heap.size W w') := Lib.hid (fun W hW => HT.out W hW hE)
    clear hE hm
    go_enter Tryz.func78, Tryz.ntmps78
    refine wp_shut ?_
    go_wp2_with fail
    refine (HX.out _ ((Below.refl _ w).alloc (Nat.le_refl _) _)).mono ?_
    rintro e w1 ⟨rfl, rfl⟩
    go_wp2_with (first | (refine li_store (by rfl) _ _ (by rfl) ⟨1, 0, 0, 0, 0, 0, 0, 0, 0, 0, 0, false, []⟩ (by kernel_rfl) (by rfl) (by unfold linC; rw [bs_empty]; rfl) ?_; intro W1 N1; refine Hid.out ?_) | fail)
    refine Lib.hid ?_
    have g1 : W1.cell? ⟨b, o + 1, none⟩ = some (.string (bs x1)) := (N1.bel.cell (p := ⟨b, o + 1, none⟩) hb).trans K1.out
    have f1 := N1.fz 1
    replace N1 := Lib.hid N1
    go_wp2_with fail
    refine (HM.out _ (tw_keep hTw N1.out.bel)).mono ?_
    rintro e w2 ⟨rfl, hb2⟩
    replace N1 := Lib.hid (N1.out.call hb2)
    clear hb2 g1 f1
    go_wp2_with fail
    refine (HS.out _).mono ?_
    rintro e w3 ⟨rfl, hb3⟩
    replace N1 := Lib.hid (N1.out.call hb3)
    have N2 := Lib.hid (N1.out.set 1 (.int .i64 mv) ⟨1, mv, 0, 0, 0, 0, 0, 0, 0, 0, 0, false, []⟩ rfl)
    have f1 := N1.out.fz 1
    have c1' : w3.cell? ⟨w.heap.size + 1, 1, none⟩ = some (.int .i64 0) := N1.out.at_ 1 (by decide)
    clear hb3
    go_wp2_with fail
    refine (HT.out _ N2.out.bel).mono ?_
    rintro e w4 ⟨rfl, hb4⟩
    exact ⟨rfl, rfl, (N2.out.call hb4).bel⟩
set_option maxHeartbeats 1600000 in
set_option maxRecDepth 100000 in
theorem pOnce_len (ws : List (List UInt8)) (hl : 0 < ws.length) (h5 : ws.length ≠ 5) (A : Option Addr) (c : Nat) (w : World) (hR : Rd w A (ws.map strV)) :
    Calls Tryz.prog 78 #[.slice A ws.length c] w fun e w' => e = pan 2 ∧ Below w.heap.size w w' := by
  have HX : Hid (∀ W, Below w.heap.size w W → Calls Tryz.prog 60 #[.slice A ws.length c, .string ⟨#[97, 116]⟩, .int .i64 5] W fun e w' => e = pan 2 ∧ W = w') := Lib.hid (fun W hW => by
    have := pExpect_no ws atW 5 A c W (hR.below hW (Nat.le_refl _)) hl (Or.inr h5)
    rwa [lit_of #[97, 116] atW rfl] at this)
  clear hR
  generalize ws.length = N at *
  replace h5 := Lib.hid h5
  go_enter Tryz.func78, Tryz.ntmps78
  refine wp_shut ?_
  go_wp2_with fail
  refine (HX.out _ ((Below.refl _ w).alloc (Nat.le_refl _) _)).mono ?_
  rintro e w1 ⟨rfl, rfl⟩
  exact ⟨rfl, rfl, (Below.refl _ w).alloc (Nat.le_refl _) _⟩
theorem LiH.drew {w0 w : World} {l : Lin} (h : LiH w0 w l) : LiH w0 w.drew l := ⟨h.z, h.row, h.bel.drew⟩
theorem pEnd_yes (x1 x2 : List UInt8) (m2 : x2.length ≤ 100000) (h1 : numE x1 (-9999) 9999 = 0) (h : (yrsR x1 x2).2.2 = 0) (w : World) : Calls Tryz.prog 96 #[.string (bs x2), .int .i64 (numV x1 (-9999) 9999)] w fun e w' => e = .returned (.int .i64 (yrsR x1 x2).2.1) ∧ Below w.heap.size w w' := by
  unfold yrsR at *
  rw [if_neg (fun e => e h1)] at *
  by_cases h2 : x2 = onlyL
  · rw [if_pos h2] at *; subst h2; exact pEnd_only _ w
  · rw [if_neg h2] at *
    by_cases h3 : x2 = onL
    · rw [if_pos h3] at *; subst h3; exact pEnd_on _ w
    · rw [if_neg h3] at *
      exact pEnd_ok _ x2 m2 h2 h3 h w
theorem pEnd_err (x1 x2 : List UInt8) (m2 : x2.length ≤ 100000) (h1 : numE x1 (-9999) 9999 = 0) (h : (yrsR x1 x2).2.2 ≠ 0) (w : World) : Calls Tryz.prog 96 #[.string (bs x2), .int .i64 (numV x1 (-9999) 9999)] w fun e w' => e = pan (yrsR x1 x2).2.2 ∧ Below w.heap.size w w' := by
  unfold yrsR at *
  rw [if_neg (fun e => e h1)] at *
  by_cases h2 : x2 = onlyL
  · rw [if_pos h2] at h; exact absurd rfl h
  · rw [if_neg h2] at *
    by_cases h3 : x2 = onL
    · rw [if_pos h3] at h; exact absurd rfl h
    · rw [if_neg h3] at *
      exact pEnd_no _ x2 m2 h2 h3 h w
theorem yrs_fst {x1 x2 : List UInt8} (h1 : numE x1 (-9999) 9999 = 0) : (yrsR x1 x2).1 = numV x1 (-9999) 9999 := by
  unfold yrsR
  rw [if_neg (fun e => e h1)]
  split
  · rfl
  · split <;> rfl
theorem yrs_err {x1 x2 : List UInt8} (h1 : numE x1 (-9999) 9999 ≠ 0) : (yrsR x1 x2).2.2 = numE x1 (-9999) 9999 := by
  unfold yrsR
  rw [if_pos h1]
set_option maxHeartbeats 3200000 in
set_option maxRecDepth 100000 in
theorem pYearly_year (E : Int) (b o c : Nat) (w : World) (hb : b < w.heap.size) (x1 x2 x3 x4 x5 x6 : List UInt8) (hTw : Hid (TW w)) (hK : Hid (KX w)) (fv tv mv d0 d1 d2 tiv rv t0 : Int) (t1 : Bool) (t2 : List UInt8) (hc : 10 ≤ c) (K1 : Hid (w.cell? ⟨b, o + 1, none⟩ = some (.string (bs x1)))) (K2 : Hid (w.cell? ⟨b, o + 2, none⟩ = some (.string (bs x2)))) (K3 : Hid (w.cell? ⟨b, o + 3, none⟩ = some (.string (bs x3)))) (K4 : Hid (w.cell? ⟨b, o + 4, none⟩ = some (.string (bs x4)))) (K5 : Hid (w.cell? ⟨b, o + 5, none⟩ = some (.string (bs x5)))) (K6 : Hid (w.cell? ⟨b, o + 6, none⟩ = some (.string (bs x6)))) (HY : Hid (∀ w, Calls Tryz.prog 95 #[.string (bs x1)] w fun e w' => e = .returned (.tuple #[.int .i64 fv, .int .i64 E]) ∧ Below w.heap.size w w')) (HY2 : Hid (∀ w, Calls Tryz.prog 62 #[.int .i64 fv, .int .i64 E] w fun e w' => e = pan E ∧ Below w.heap.size w w')) :
    Calls Tryz.prog 79 #[.slice (some ⟨b, o, none⟩) 10 c] w fun e w' => e = pan E ∧ Below w.heap.size w w' := by
  go_enter Tryz.func79, Tryz.ntmps79
  refine wp_shut ?_
  go_wp2_with (first | (refine li_store (by rfl) _ _ (by rfl) ⟨2, 0, 0, 0, 0, 0, 0, 0, 0, 0, 0, false, []⟩ (by kernel_rfl) (by rfl) (by unfold linC; rw [bs_empty]; rfl) ?_; intro W1 N1; refine Hid.out ?_) | fail)
  refine Lib.hid ?_
  have g1 : W1.cell? ⟨b, o + 1, none⟩ = some (.string (bs x1)) := (N1.bel.cell (p := ⟨b, o + 1, none⟩) hb).trans K1.out
  replace N1 := Lib.hid N1
  go_wp2_with fail
  refine (HY.out _).mono ?_
  rintro e w2 ⟨rfl, hb2⟩
  replace N1 := Lib.hid (N1.out.call hb2)
  clear hb2 g1
  go_wp2_with fail
  refine (HY2.out _).mono ?_
  rintro e w3 ⟨rfl, hb3⟩
  exact ⟨rfl, rfl, (N1.out.call hb3).bel⟩
set_option maxHeartbeats 3200000 in
set_option maxRecDepth 100000 in
theorem pYearly_to (E : Int) (b o c : Nat) (w : World) (hb : b < w.heap.size) (x1 x2 x3 x4 x5 x6 : List UInt8) (hTw : Hid (TW w)) (hK : Hid (KX w)) (fv tv mv d0 d1 d2 tiv rv t0 : Int) (t1 : Bool) (t2 : List UInt8) (hc : 10 ≤ c) (K1 : Hid (w.cell? ⟨b, o + 1, none⟩ = some (.string (bs x1)))) (K2 : Hid (w.cell? ⟨b, o + 2, none⟩ = some (.string (bs x2)))) (K3 : Hid (w.cell? ⟨b, o + 3, none⟩ = some (.string (bs x3)))) (K4 : Hid (w.cell? ⟨b, o + 4, none⟩ = some (.string (bs x4)))) (K5 : Hid (w.cell? ⟨b, o + 5, none⟩ = some (.string (bs x5)))) (K6 : Hid (w.cell? ⟨b, o + 6, none⟩ = some (.string (bs x6)))) (HY : Hid (∀ w, Calls Tryz.prog 95 #[.string (bs x1)] w fun e w' => e = .returned (.tuple #[.int .i64 fv, .int .i64 0]) ∧ Below w.heap.size w w')) (HY2 : Hid (∀ w, Calls Tryz.prog 62 #[.int .i64 fv, .int .i64 0] w fun e w' => e = .returned (.int .i64 fv) ∧ Below w.heap.size w w')) (HE : Hid (∀ w, Calls Tryz.prog 96 #[.string (bs x2), .int .i64 fv] w fun e w' => e = pan E ∧ Below w.heap.size w w')) :
    Calls Tryz.prog 79 #[.slice (some ⟨b, o, none⟩) 10 c] w fun e w' => e = pan E ∧ Below w.heap.size w w' := by
  go_enter Tryz.func79, Tryz.ntmps79
  refine wp_shut ?_
  go_wp2_with (first | (refine li_store (by rfl) _ _ (by rfl) ⟨2, 0, 0, 0, 0, 0, 0, 0, 0, 0, 0, false, []⟩ (by kernel_rfl) (by rfl) (by unfold linC; rw [bs_empty]; rfl) ?_; intro W1 N1; refine Hid.out ?_) | fail)
  refine Lib.hid ?_
  have g1 : W1.cell? ⟨b, o + 1, none⟩ = some (.string (bs x1)) := (N1.bel.cell (p := ⟨b, o + 1, none⟩) hb).trans K1.out
  replace N1 := Lib.hid N1
  go_wp2_with fail
  refine (HY.out _).mono ?_
  rintro e w2 ⟨rfl, hb2⟩
  replace N1 := Lib.hid (N1.out.call hb2)
  clear hb2 g1
  go_wp2_with fail
  refine (HY2.out _).mono ?_
  rintro e w3 ⟨rfl, hb3⟩
  replace N1 := Lib.hid (N1.out.call hb3)
  clear hb3
  have N2 := N1.out.set 2 (.int .i64 fv) ⟨2, 0, fv, 0, 0, 0, 0, 0, 0, 0, 0, false, []⟩ rfl
  have f2 := N1.out.fz 2
  have c2 : w3.cell? ⟨w.heap.size + 1, 2, none⟩ = some (.int .i64 0) := N1.out.at_ 2 (by decide)
  go_wp2_with fail
  clear f2 c2
  obtain ⟨W4, hW4⟩ : ∃ W4, W4 = w3.setCell ⟨w.heap.size + 1, 2, none⟩ (.int .i64 fv) := ⟨_, rfl⟩
  rw [← hW4] at N2 ⊢
  replace N1 := Lib.hid N2
  clear N2 hW4
  have g2 : W4.cell? ⟨b, o + 2, none⟩ = some (.string (bs x2)) := (N1.out.bel.cell (p := ⟨b, o + 2, none⟩) hb).trans K2.out
  have g3 : W4.cell? ⟨w.heap.size + 1, 2, none⟩ = some (.int .i64 fv) := N1.out.at_ 2 (by decide)
  refine region_planQ (S := fun w2 => w2.cell? ⟨b, o + 2, none⟩ = some (.string (bs x2)) ∧ w2.cell? ⟨w.heap.size + 1, 2, none⟩ = some (.int .i64 fv)) [(0, true), (1, true), (2, true), (3, true), (4, true), (5, false), (6, true), (7, false)] (by as_aux_lemma => kernel_rfl) (by as_aux_lemma => kernel_rfl) (by as_aux_lemma => kernel_rfl) (by as_aux_lemma => kernel_rfl) ⟨by rw [World.cell?_drew]; exact g2, by rw [World.cell?_drew]; exact g3⟩ planQ_shut ?_
  refine plan_yes (v := ?v0) (by simp only [List.getElem?_toArray, List.getElem?_cons_zero, List.getElem?_cons_succ]; exact rfl) (Or.inl ⟨by as_aux_lemma => rfl, ?hy0⟩) ?rest0
  case hy0 => (intro w2 hSw; (try dsimp only at hSw); obtain ⟨s0, s1⟩ := hSw; go_simp; try with_reducible rfl)
  try simp only [Act.put, List.setIfInBounds_toArray, List.set_cons_zero, List.set_cons_succ]
  refine plan_yes (v := ?v1) (by simp only [List.getElem?_toArray, List.getElem?_cons_zero, List.getElem?_cons_succ]; exact rfl) (Or.inl ⟨by as_aux_lemma => rfl, ?hy1⟩) ?rest1
  case hy1 => (intro w2 hSw; (try dsimp only at hSw); obtain ⟨s0, s1⟩ := hSw; go_simp; try with_reducible rfl)
  try simp only [Act.put, List.setIfInBounds_toArray, List.set_cons_zero, List.set_cons_succ]
  refine plan_yes (v := ?v2) (by simp only [List.getElem?_toArray, List.getElem?_cons_zero, List.getElem?_cons_succ]; exact rfl) (Or.inl ⟨by as_aux_lemma => rfl, ?hy2⟩) ?rest2
  case hy2 => (intro w2 hSw; (try dsimp only at hSw); obtain ⟨s0, s1⟩ := hSw; go_simp; try with_reducible rfl)
  try simp only [Act.put, List.setIfInBounds_toArray, List.set_cons_zero, List.set_cons_succ]
  refine plan_yes (v := ?v3) (by simp only [List.getElem?_toArray, List.getElem?_cons_zero, List.getElem?_cons_succ]; exact rfl) (Or.inl ⟨by as_aux_lemma => rfl, ?hy3⟩) ?rest3
  case hy3 => (intro w2 hSw; (try dsimp only at hSw); obtain ⟨s0, s1⟩ := hSw; go_simp; try with_reducible rfl)
  try simp only [Act.put, List.setIfInBounds_toArray, List.set_cons_zero, List.set_cons_succ]
  refine plan_yes (v := ?v4) (by simp only [List.getElem?_toArray, List.getElem?_cons_zero, List.getElem?_cons_succ]; exact rfl) (Or.inl ⟨by as_aux_lemma => rfl, ?hy4⟩) ?rest4
  case hy4 => (intro w2 hSw; (try dsimp only at hSw); obtain ⟨s0, s1⟩ := hSw; go_simp; try with_reducible rfl)
  try simp only [Act.put, List.setIfInBounds_toArray, List.set_cons_zero, List.set_cons_succ]
  refine plan_calls (by simp only [List.getElem?_toArray, List.getElem?_cons_zero, List.getElem?_cons_succ]; exact rfl) (by as_aux_lemma => rfl) (fun K hK => ?_)
  go_simp
  refine (HE.out _).mono ?_
  rintro e w5 ⟨rfl, hb5⟩
  exact ⟨rfl, rfl, (N1.out.drew.call hb5).bel⟩
set_option maxHeartbeats 3200000 in
set_option maxRecDepth 100000 in
theorem pYearly_month (E : Int) (b o c : Nat) (w : World) (hb : b < w.heap.size) (x1 x2 x3 x4 x5 x6 : List UInt8) (hTw : Hid (TW w)) (hK : Hid (KX w)) (fv tv mv d0 d1 d2 tiv rv t0 : Int) (t1 : Bool) (t2 : List UInt8) (hc : 10 ≤ c) (K1 : Hid (w.cell? ⟨b, o + 1, none⟩ = some (.string (bs x1)))) (K2 : Hid (w.cell? ⟨b, o + 2, none⟩ = some (.string (bs x2)))) (K3 : Hid (w.cell? ⟨b, o + 3, none⟩ = some (.string (bs x3)))) (K4 : Hid (w.cell? ⟨b, o + 4, none⟩ = some (.string (bs x4)))) (K5 : Hid (w.cell? ⟨b, o + 5, none⟩ = some (.string (bs x5)))) (K6 : Hid (w.cell? ⟨b, o + 6, none⟩ = some (.string (bs x6)))) (HY : Hid (∀ w, Calls Tryz.prog 95 #[.string (bs x1)] w fun e w' => e = .returned (.tuple #[.int .i64 fv, .int .i64 0]) ∧ Below w.heap.size w w')) (HY2 : Hid (∀ w, Calls Tryz.prog 62 #[.int .i64 fv, .int .i64 0] w fun e w' => e = .returned (.int .i64 fv) ∧ Below w.heap.size w w')) (HE : Hid (∀ w, Calls Tryz.prog 96 #[.string (bs x2), .int .i64 fv] w fun e w' => e = .returned (.int .i64 tv) ∧ Below w.heap.size w w')) (HMo : Hid (∀ w, KX w → Calls Tryz.prog 97 #[.string (bs x3)] w fun e w' => e = pan E ∧ Below w.heap.size w w')) :
    Calls Tryz.prog 79 #[.slice (some ⟨b, o, none⟩) 10 c] w fun e w' => e = pan E ∧ Below w.heap.size w w' := by
  go_enter Tryz.func79, Tryz.ntmps79
  refine wp_shut ?_
  go_wp2_with (first | (refine li_store (by rfl) _ _ (by rfl) ⟨2, 0, 0, 0, 0, 0, 0, 0, 0, 0, 0, false, []⟩ (by kernel_rfl) (by rfl) (by unfold linC; rw [bs_empty]; rfl) ?_; intro W1 N1; refine Hid.out ?_) | fail)
  refine Lib.hid ?_
  have g1 : W1.cell? ⟨b, o + 1, none⟩ = some (.string (bs x1)) := (N1.bel.cell (p := ⟨b, o + 1, none⟩) hb).trans K1.out
  replace N1 := Lib.hid N1
  go_wp2_with fail
  refine (HY.out _).mono ?_
  rintro e w2 ⟨rfl, hb2⟩
  replace N1 := Lib.hid (N1.out.call hb2)
  clear hb2 g1
  go_wp2_with fail
  refine (HY2.out _).mono ?_
  rintro e w3 ⟨rfl, hb3⟩
  replace N1 := Lib.hid (N1.out.call hb3)
  clear hb3
  have N2 := N1.out.set 2 (.int .i64 fv) ⟨2, 0, fv, 0, 0, 0, 0, 0, 0, 0, 0, false, []⟩ rfl
  have f2 := N1.out.fz 2
  have c2 : w3.cell? ⟨w.heap.size + 1, 2, none⟩ = some (.int .i64 0) := N1.out.at_ 2 (by decide)
  go_wp2_with fail
  clear f2 c2
  obtain ⟨W4, hW4⟩ : ∃ W4, W4 = w3.setCell ⟨w.heap.size + 1, 2, none⟩ (.int .i64 fv) := ⟨_, rfl⟩
  rw [← hW4] at N2 ⊢
  replace N1 := Lib.hid N2
  clear N2 hW4
  have g2 : W4.cell? ⟨b, o + 2, none⟩ = some (.string (bs x2)) := (N1.out.bel.cell (p := ⟨b, o + 2, none⟩) hb).trans K2.out
  have g3 : W4.cell? ⟨w.heap.size + 1, 2, none⟩ = some (.int .i64 fv) := N1.out.at_ 2 (by decide)
  refine region_planQ (S := fun w2 => w2.cell? ⟨b, o + 2, none⟩ = some (.string (bs x2)) ∧ w2.cell? ⟨w.heap.size + 1, 2, none⟩ = some (.int .i64 fv)) [(0, true), (1, true), (2, true), (3, true), (4, true), (5, false), (6, true), (7, false)] (by as_aux_lemma => kernel_rfl) (by as_aux_lemma => kernel_rfl) (by as_aux_lemma => kernel_rfl) (by as_aux_lemma => kernel_rfl) ⟨by rw [World.cell?_drew]; exact g2, by rw [World.cell?_drew]; exact g3⟩ planQ_shut ?_
  refine plan_yes (v := ?v0) (by simp only [List.getElem?_toArray, List.getElem?_cons_zero, List.getElem?_cons_succ]; exact rfl) (Or.inl ⟨by as_aux_lemma => rfl, ?hy0⟩) ?rest0
  case hy0 => (intro w2 hSw; (try dsimp only at hSw); obtain ⟨s0, s1⟩ := hSw; go_simp; try with_reducible rfl)
  try simp only [Act.put, List.setIfInBounds_toArray, List.set_cons_zero, List.set_cons_succ]
  refine plan_yes (v := ?v1) (by simp only [List.getElem?_toArray, List.getElem?_cons_zero, List.getElem?_cons_succ]; exact rfl) (Or.inl ⟨by as_aux_lemma => rfl, ?hy1⟩) ?rest1
  case hy1 => (intro w2 hSw; (try dsimp only at hSw); obtain ⟨s0, s1⟩ := hSw; go_simp; try with_reducible rfl)
  try simp only [Act.put, List.setIfInBounds_toArray, List.set_cons_zero, List.set_cons_succ]
  refine plan_yes (v := ?v2) (by simp only [List.getElem?_toArray, List.getElem?_cons_zero, List.getElem?_cons_succ]; exact rfl) (Or.inl ⟨by as_aux_lemma => rfl, ?hy2⟩) ?rest2
  case hy2 => (intro w2 hSw; (try dsimp only at hSw); obtain ⟨s0, s1⟩ := hSw; go_simp; try with_reducible rfl)
  try simp only [Act.put, List.setIfInBounds_toArray, List.set_cons_zero, List.set_cons_succ]
  refine plan_yes (v := ?v3) (by simp only [List.getElem?_toArray, List.getElem?_cons_zero, List.getElem?_cons_succ]; exact rfl) (Or.inl ⟨by as_aux_lemma => rfl, ?hy3⟩) ?rest3
  case hy3 => (intro w2 hSw; (try dsimp only at hSw); obtain ⟨s0, s1⟩ := hSw; go_simp; try with_reducible rfl)
  try simp only [Act.put, List.setIfInBounds_toArray, List.set_cons_zero, List.set_cons_succ]
  refine plan_yes (v := ?v4) (by simp only [List.getElem?_toArray, List.getElem?_cons_zero, List.getElem?_cons_succ]; exact rfl) (Or.inl ⟨by as_aux_lemma => rfl, ?hy4⟩) ?rest4
  case hy4 => (intro w2 hSw; (try dsimp only at hSw); obtain ⟨s0, s1⟩ := hSw; go_simp; try with_reducible rfl)
  try simp only [Act.put, List.setIfInBounds_toArray, List.set_cons_zero, List.set_cons_succ]
  refine plan_calls (by simp only [List.getElem?_toArray, List.getElem?_cons_zero, List.getElem?_cons_succ]; exact rfl) (by as_aux_lemma => rfl) (fun K hK => ?_)
  go_simp
  refine (HE.out _).mono ?_
  rintro e w5 ⟨rfl, hb5⟩
  replace N1 := Lib.hid (N1.out.drew.call hb5)
  clear hb5 g2 g3
  have g2 : w5.cell? ⟨b, o + 2, none⟩ = some (.string (bs x2)) := (N1.out.bel.cell (p := ⟨b, o + 2, none⟩) hb).trans K2.out
  have g3 : w5.cell? ⟨w.heap.size + 1, 2, none⟩ = some (.int .i64 fv) := N1.out.at_ 2 (by decide)
  refine hK.out _ _ ⟨g2, g3⟩ ?_
  clear hK K
  try simp only [Act.put, List.setIfInBounds_toArray, List.set_cons_zero, List.set_cons_succ]
  refine plan_yes (v := ?v6) (by simp only [List.getElem?_toArray, List.getElem?_cons_zero, List.getElem?_cons_succ]; exact rfl) (Or.inl ⟨by as_aux_lemma => rfl, ?hy6⟩) ?rest6
  case hy6 => (intro w2 hSw; (try dsimp only at hSw); obtain ⟨s0, s1⟩ := hSw; go_simp; try with_reducible rfl)
  try simp only [Act.put, List.setIfInBounds_toArray, List.set_cons_zero, List.set_cons_succ]
  have f3 := N1.out.fz 3
  have c3 : w5.cell? ⟨w.heap.size + 1, 3, none⟩ = some (.int .i64 0) := N1.out.at_ 3 (by decide)
  have N2 := N1.out.set 3 (.int .i64 tv) ⟨2, 0, fv, tv, 0, 0, 0, 0, 0, 0, 0, false, []⟩ rfl
  refine plan_calls (by simp only [List.getElem?_toArray, List.getElem?_cons_zero, List.getElem?_cons_succ]; exact rfl) (by as_aux_lemma => rfl) (fun K hK => ?_)
  go_simp
  refine hK.out _ _ ⟨(N2.bel.cell (p := ⟨b, o + 2, none⟩) hb).trans K2.out, N2.at_ 2 (by decide)⟩ ?_
  clear hK K f3 c3 g2 g3
  try simp only [Act.put, List.setIfInBounds_toArray, List.set_cons_zero, List.set_cons_succ]
  refine plan_done ?_
  obtain ⟨W6, hW6⟩ : ∃ W6, W6 = w5.setCell ⟨w.heap.size + 1, 3, none⟩ (.int .i64 tv) := ⟨_, rfl⟩
  rw [← hW6] at N2 ⊢
  replace N1 := Lib.hid N2
  clear N2 hW6
  have g3 : W6.cell? ⟨b, o + 3, none⟩ = some (.string (bs x3)) := (N1.out.bel.cell (p := ⟨b, o + 3, none⟩) hb).trans K3.out
  go_wp2_with fail
  refine (HMo.out _ (kx_keep hK N1.out.bel)).mono ?_
  rintro e w7 ⟨rfl, hb7⟩
  exact ⟨rfl, rfl, (N1.out.call hb7).bel⟩
set_option maxHeartbeats 3200000 in
set_option maxRecDepth 100000 in
theorem pYearly_day (E : Int) (b o c : Nat) (w : World) (hb : b < w.heap.size) (x1 x2 x3 x4 x5 x6 : List UInt8) (hTw : Hid (TW w)) (hK : Hid (KX w)) (fv tv mv d0 d1 d2 tiv rv t0 : Int) (t1 : Bool) (t2 : List UInt8) (hc : 10 ≤ c) (K1 : Hid (w.cell? ⟨b, o + 1, none⟩ = some (.string (bs x1)))) (K2 : Hid (w.cell? ⟨b, o + 2, none⟩ = some (.string (bs x2)))) (K3 : Hid (w.cell? ⟨b, o + 3, none⟩ = some (.string (bs x3)))) (K4 : Hid (w.cell? ⟨b, o + 4, none⟩ = some (.string (bs x4)))) (K5 : Hid (w.cell? ⟨b, o + 5, none⟩ = some (.string (bs x5)))) (K6 : Hid (w.cell? ⟨b, o + 6, none⟩ = some (.string (bs x6)))) (HY : Hid (∀ w, Calls Tryz.prog 95 #[.string (bs x1)] w fun e w' => e = .returned (.tuple #[.int .i64 fv, .int .i64 0]) ∧ Below w.heap.size w w')) (HY2 : Hid (∀ w, Calls Tryz.prog 62 #[.int .i64 fv, .int .i64 0] w fun e w' => e = .returned (.int .i64 fv) ∧ Below w.heap.size w w')) (HE : Hid (∀ w, Calls Tryz.prog 96 #[.string (bs x2), .int .i64 fv] w fun e w' => e = .returned (.int .i64 tv) ∧ Below w.heap.size w w')) (HMo : Hid (∀ w, KX w → Calls Tryz.prog 97 #[.string (bs x3)] w fun e w' => e = .returned (.int .i64 mv) ∧ Below w.heap.size w w')) (HD : Hid (∀ w, TW w → Calls Tryz.prog 69 #[.string (bs x4)] w fun e w' => e = .returned (.tuple #[.agg #[.int .i64 d0, .int .i64 d1, .int .i64 d2], .int .i64 E]) ∧ Below w.heap.size w w')) (HD2 : Hid (∀ w, Calls Tryz.prog 98 #[.agg #[.int .i64 d0, .int .i64 d1, .int .i64 d2], .int .i64 E] w fun e w' => e = pan E ∧ Below w.heap.size w w')) :
    Calls Tryz.prog 79 #[.slice (some ⟨b, o, none⟩) 10 c] w fun e w' => e = pan E ∧ Below w.heap.size w w' := by
  go_enter Tryz.func79, Tryz.ntmps79
  refine wp_shut ?_
  go_wp2_with (first | (refine li_store (by rfl) _ _ (by rfl) ⟨2, 0, 0, 0, 0, 0, 0, 0, 0, 0, 0, false, []⟩ (by kernel_rfl) (by rfl) (by unfold linC; rw [bs_empty]; rfl) ?_; intro W1 N1; refine Hid.out ?_) | fail)
  refine Lib.hid ?_
  have g1 : W1.cell? ⟨b, o + 1, none⟩ = some (.string (bs x1)) := (N1.bel.cell (p := ⟨b, o + 1, none⟩) hb).trans K1.out
  replace N1 := Lib.hid N1
  go_wp2_with fail
  refine (HY.out _).mono ?_
  rintro e w2 ⟨rfl, hb2⟩
  replace N1 := Lib.hid (N1.out.call hb2)
  clear hb2 g1
  go_wp2_with fail
  refine (HY2.out _).mono ?_
  rintro e w3 ⟨rfl, hb3⟩
  replace N1 := Lib.hid (N1.out.call hb3)
  clear hb3
  have N2 := N1.out.set 2 (.int .i64 fv) ⟨2, 0, fv, 0, 0, 0, 0, 0, 0, 0, 0, false, []⟩ rfl
  have f2 := N1.out.fz 2
  have c2 : w3.cell? ⟨w.heap.size + 1, 2, none⟩ = some (.int .i64 0) := N1.out.at_ 2 (by decide)
  go_wp2_with fail
  clear f2 c2
  obtain ⟨W4, hW4⟩ : ∃ W4, W4 = w3.setCell ⟨w.heap.size + 1, 2, none⟩ (.int .i64 fv) := ⟨_, rfl⟩
  rw [← hW4] at N2 ⊢
  replace N1 := Lib.hid N2
  clear N2 hW4
  have g2 : W4.cell? ⟨b, o + 2, none⟩ = some (.string (bs x2)) := (N1.out.bel.cell (p := ⟨b, o + 2, none⟩) hb).trans K2.out
  have g3 : W4.cell? ⟨w.heap.size + 1, 2, none⟩ = some (.int .i64 fv) := N1.out.at_ 2 (by decide)
  refine region_planQ (S := fun w2 => w2.cell? ⟨b, o + 2, none⟩ = some (.string (bs x2)) ∧ w2.cell? ⟨w.heap.size + 1, 2, none⟩ = some (.int .i64 fv)) [(0, true), (1, true), (2, true), (3, true), (4, true), (5, false), (6, true), (7, false)] (by as_aux_lemma => kernel_rfl) (by as_aux_lemma => kernel_rfl) (by as_aux_lemma => kernel_rfl) (by as_aux_lemma => kernel_rfl) ⟨by rw [World.cell?_drew]; exact g2, by rw [World.cell?_drew]; exact g3⟩ planQ_shut ?_
  refine plan_yes (v := ?v0) (by simp only [List.getElem?_toArray, List.getElem?_cons_zero, List.getElem?_cons_succ]; exact rfl) (Or.inl ⟨by as_aux_lemma => rfl, ?hy0⟩) ?rest0
  case hy0 => (intro w2 hSw; (try dsimp only at hSw); obtain ⟨s0, s1⟩ := hSw; go_simp; try with_reducible rfl)
  try simp only [Act.put, List.setIfInBounds_toArray, List.set_cons_zero, List.set_cons_succ]
  refine plan_yes (v := ?v1) (by simp only [List.getElem?_toArray, List.getElem?_cons_zero, List.getElem?_cons_succ]; exact rfl) (Or.inl ⟨by as_aux_lemma => rfl, ?hy1⟩) ?rest1
  case hy1 => (intro w2 hSw; (try dsimp only at hSw); obtain ⟨s0, s1⟩ := hSw; go_simp; try with_reducible rfl)
  try simp only [Act.put, List.setIfInBounds_toArray, List.set_cons_zero, List.set_cons_succ]
  refine plan_yes (v := ?v2) (by simp only [List.getElem?_toArray, List.getElem?_cons_zero, List.getElem?_cons_succ]; exact rfl) (Or.inl ⟨by as_aux_lemma => rfl, ?hy2⟩) ?rest2
  case hy2 => (intro w2 hSw; (try dsimp only at hSw); obtain ⟨s0, s1⟩ := hSw; go_simp; try with_reducible rfl)
  try simp only [Act.put, List.setIfInBounds_toArray, List.set_cons_zero, List.set_cons_succ]
  refine plan_yes (v := ?v3) (by simp only [List.getElem?_toArray, List.getElem?_cons_zero, List.getElem?_cons_succ]; exact rfl) (Or.inl ⟨by as_aux_lemma => rfl, ?hy3⟩) ?rest3
  case hy3 => (intro w2 hSw; (try dsimp only at hSw); obtain ⟨s0, s1⟩ := hSw; go_simp; try with_reducible rfl)
  try simp only [Act.put, List.setIfInBounds_toArray, List.set_cons_zero, List.set_cons_succ]
  refine plan_yes (v := ?v4) (by simp only [List.getElem?_toArray, List.getElem?_cons_zero, List.getElem?_cons_succ]; exact rfl) (Or.inl ⟨by as_aux_lemma => rfl, ?hy4⟩) ?rest4
  case hy4 => (intro w2 hSw; (try dsimp only at hSw); obtain ⟨s0, s1⟩ := hSw; go_simp; try with_reducible rfl)
  try simp only [Act.put, List.setIfInBounds_toArray, List.set_cons_zero, List.set_cons_succ]
  refine plan_calls (by simp only [List.getElem?_toArray, List.getElem?_cons_zero, List.getElem?_cons_succ]; exact rfl) (by as_aux_lemma => rfl) (fun K hK => ?_)
  go_simp
  refine (HE.out _).mono ?_
  rintro e w5 ⟨rfl, hb5⟩
  replace N1 := Lib.hid (N1.out.drew.call hb5)
  clear hb5 g2 g3
  have g2 : w5.cell? ⟨b, o + 2, none⟩ = some (.string (bs x2)) := (N1.out.bel.cell (p := ⟨b, o + 2, none⟩) hb).trans K2.out
  have g3 : w5.cell? ⟨w.heap.size + 1, 2, none⟩ = some (.int .i64 fv) := N1.out.at_ 2 (by decide)
  refine hK.out _ _ ⟨g2, g3⟩ ?_
  clear hK K
  try simp only [Act.put, List.setIfInBounds_toArray, List.set_cons_zero, List.set_cons_succ]
  refine plan_yes (v := ?v6) (by simp only [List.getElem?_toArray, List.getElem?_cons_zero, List.getElem?_cons_succ]; exact rfl) (Or.inl ⟨by as_aux_lemma => rfl, ?hy6⟩) ?rest6
  case hy6 => (intro w2 hSw; (try dsimp only at hSw); obtain ⟨s0, s1⟩ := hSw; go_simp; try with_reducible rfl)
  try simp only [Act.put, List.setIfInBounds_toArray, List.set_cons_zero, List.set_cons_succ]
  have f3 := N1.out.fz 3
  have c3 : w5.cell? ⟨w.heap.size + 1, 3, none⟩ = some (.int .i64 0) := N1.out.at_ 3 (by decide)
  have N2 := N1.out.set 3 (.int .i64 tv) ⟨2, 0, fv, tv, 0, 0, 0, 0, 0, 0, 0, false, []⟩ rfl
  refine plan_calls (by simp only [List.getElem?_toArray, List.getElem?_cons_zero, List.getElem?_cons_succ]; exact rfl) (by as_aux_lemma => rfl) (fun K hK => ?_)
  go_simp
  refine hK.out _ _ ⟨(N2.bel.cell (p := ⟨b, o + 2, none⟩) hb).trans K2.out, N2.at_ 2 (by decide)⟩ ?_
  clear hK K f3 c3 g2 g3
  try simp only [Act.put, List.setIfInBounds_toArray, List.set_cons_zero, List.set_cons_succ]
  refine plan_done ?_
  obtain ⟨W6, hW6⟩ : ∃ W6, W6 = w5.setCell ⟨w.heap.size + 1, 3, none⟩ (.int .i64 tv) := ⟨_, rfl⟩
  rw [← hW6] at N2 ⊢
  replace N1 := Lib.hid N2
  clear N2 hW6
  have g3 : W6.cell? ⟨b, o + 3, none⟩ = some (.string (bs x3)) := (N1.out.bel.cell (p := ⟨b, o + 3, none⟩) hb).trans K3.out
  go_wp2_with fail
  refine (HMo.out _ (kx_keep hK N1.out.bel)).mono ?_
  rintro e w7 ⟨rfl, hb7⟩
  replace N1 := Lib.hid (N1.out.call hb7)
  clear hb7 g3
  have N2 := Lib.hid (N1.out.set 4 (.int .i64 mv) ⟨2, 0, fv, tv, mv, 0, 0, 0, 0, 0, 0, false, []⟩ rfl)
  have f1 := N1.out.fz 4
  have c1 : w7.cell? ⟨w.heap.size + 1, 4, none⟩ = some (.int .i64 0) := N1.out.at_ 4 (by decide)
  have g4 : (w7.setCell ⟨w.heap.size + 1, 4, none⟩ (.int .i64 mv)).cell? ⟨b, o + 4, none⟩ = some (.string (bs x4)) := (N2.out.bel.cell (p := ⟨b, o + 4, none⟩) hb).trans K4.out
  go_wp2_with fail
  refine (HD.out _ (tw_keep hTw N2.out.bel)).mono ?_
  rintro e w8 ⟨rfl, hb1⟩
  replace N1 := Lib.hid (N2.out.call hb1)
  clear hb1 N2 f1 c1 g4
  go_wp2_with fail
  refine (HD2.out _).mono ?_
  rintro e w9 ⟨rfl, hb1⟩
  exact ⟨rfl, rfl, (N1.out.call hb1).bel⟩
set_option maxHeartbeats 3200000 in
set_option maxRecDepth 100000 in
theorem pYearly_time (E : Int) (b o c : Nat) (w : World) (hb : b < w.heap.size) (x1 x2 x3 x4 x5 x6 : List UInt8) (hTw : Hid (TW w)) (hK : Hid (KX w)) (fv tv mv d0 d1 d2 tiv rv t0 : Int) (t1 : Bool) (t2 : List UInt8) (hc : 10 ≤ c) (K1 : Hid (w.cell? ⟨b, o + 1, none⟩ = some (.string (bs x1)))) (K2 : Hid (w.cell? ⟨b, o + 2, none⟩ = some (.string (bs x2)))) (K3 : Hid (w.cell? ⟨b, o + 3, none⟩ = some (.string (bs x3)))) (K4 : Hid (w.cell? ⟨b, o + 4, none⟩ = some (.string (bs x4)))) (K5 : Hid (w.cell? ⟨b, o + 5, none⟩ = some (.string (bs x5)))) (K6 : Hid (w.cell? ⟨b, o + 6, none⟩ = some (.string (bs x6)))) (HY : Hid (∀ w, Calls Tryz.prog 95 #[.string (bs x1)] w fun e w' => e = .returned (.tuple #[.int .i64 fv, .int .i64 0]) ∧ Below w.heap.size w w')) (HY2 : Hid (∀ w, Calls Tryz.prog 62 #[.int .i64 fv, .int .i64 0] w fun e w' => e = .returned (.int .i64 fv) ∧ Below w.heap.size w w')) (HE : Hid (∀ w, Calls Tryz.prog 96 #[.string (bs x2), .int .i64 fv] w fun e w' => e = .returned (.int .i64 tv) ∧ Below w.heap.size w w')) (HMo : Hid (∀ w, KX w → Calls Tryz.prog 97 #[.string (bs x3)] w fun e w' => e = .returned (.int .i64 mv) ∧ Below w.heap.size w w')) (HD : Hid (∀ w, TW w → Calls Tryz.prog 69 #[.string (bs x4)] w fun e w' => e = .returned (.tuple #[.agg #[.int .i64 d0, .int .i64 d1, .int .i64 d2], .int .i64 0]) ∧ Below w.heap.size w w')) (HD2 : Hid (∀ w, Calls Tryz.prog 98 #[.agg #[.int .i64 d0, .int .i64 d1, .int .i64 d2], .int .i64 0] w fun e w' => e = .returned (.agg #[.int .i64 d0, .int .i64 d1, .int .i64 d2]) ∧ Below w.heap.size w w')) (HT : Hid (∀ w, Calls Tryz.prog 99 #[.string (bs x5)] w fun e w' => e = .returned (.tuple #[.int .i64 tiv, .int .i64 E]) ∧ Below w.heap.size w w')) (HT2 : Hid (∀ w, Calls Tryz.prog 62 #[.int .i64 tiv, .int .i64 E] w fun e w' => e = pan E ∧ Below w.heap.size w w')) :
    Calls Tryz.prog 79 #[.slice (some ⟨b, o, none⟩) 10 c] w fun e w' => e = pan E ∧ Below w.heap.size w w' := by
  go_enter Tryz.func79, Tryz.ntmps79
  refine wp_shut ?_
  go_wp2_with (first | (refine li_store (by rfl) _ _ (by rfl) ⟨2, 0, 0, 0, 0, 0, 0, 0, 0, 0, 0, false, []⟩ (by kernel_rfl) (by rfl) (by unfold linC; rw [bs_empty]; rfl) ?_; intro W1 N1; refine Hid.out ?_) | fail)
  refine Lib.hid ?_
  have g1 : W1.cell? ⟨b, o + 1, none⟩ = some (.string (bs x1)) := (N1.bel.cell (p := ⟨b, o + 1, none⟩) hb).trans K1.out
  replace N1 := Lib.hid N1
  go_wp2_with fail
  refine (HY.out _).mono ?_
  rintro e w2 ⟨rfl, hb2⟩
  replace N1 := Lib.hid (N1.out.call hb2)
  clear hb2 g1
  go_wp2_with fail
  refine (HY2.out _).mono ?_
  rintro e w3 ⟨rfl, hb3⟩
  replace N1 := Lib.hid (N1.out.call hb3)
  clear hb3
  have N2 := N1.out.set 2 (.int .i64 fv) ⟨2, 0, fv, 0, 0, 0, 0, 0, 0, 0, 0, false, []⟩ rfl
  have f2 := N1.out.fz 2
  have c2 : w3.cell? ⟨w.heap.size + 1, 2, none⟩ = some (.int .i64 0) := N1.out.at_ 2 (by decide)
  go_wp2_with fail
  clear f2 c2
  obtain ⟨W4, hW4⟩ : ∃ W4, W4 = w3.setCell ⟨w.heap.size + 1, 2, none⟩ (.int .i64 fv) := ⟨_, rfl⟩
  rw [← hW4] at N2 ⊢
  replace N1 := Lib.hid N2
  clear N2 hW4
  have g2 : W4.cell? ⟨b, o + 2, none⟩ = some (.string (bs x2)) := (N1.out.bel.cell (p := ⟨b, o + 2, none⟩) hb).trans K2.out
  have g3 : W4.cell? ⟨w.heap.size + 1, 2, none⟩ = some (.int .i64 fv) := N1.out.at_ 2 (by decide)
  refine region_planQ (S := fun w2 => w2.cell? ⟨b, o + 2, none⟩ = some (.string (bs x2)) ∧ w2.cell? ⟨w.heap.size + 1, 2, none⟩ = some (.int .i64 fv)) [(0, true), (1, true), (2, true), (3, true), (4, true), (5, false), (6, true), (7, false)] (by as_aux_lemma => kernel_rfl) (by as_aux_lemma => kernel_rfl) (by as_aux_lemma => kernel_rfl) (by as_aux_lemma => kernel_rfl) ⟨by rw [World.cell?_drew]; exact g2, by rw [World.cell?_drew]; exact g3⟩ planQ_shut ?_
  refine plan_yes (v := ?v0) (by simp only [List.getElem?_toArray, List.getElem?_cons_zero, List.getElem?_cons_succ]; exact rfl) (Or.inl ⟨by as_aux_lemma => rfl, ?hy0⟩) ?rest0
  case hy0 => (intro w2 hSw; (try dsimp only at hSw); obtain ⟨s0, s1⟩ := hSw; go_simp; try with_reducible rfl)
  try simp only [Act.put, List.setIfInBounds_toArray, List.set_cons_zero, List.set_cons_succ]
  refine plan_yes (v := ?v1) (by simp only [List.getElem?_toArray, List.getElem?_cons_zero, List.getElem?_cons_succ]; exact rfl) (Or.inl ⟨by as_aux_lemma => rfl, ?hy1⟩) ?rest1
  case hy1 => (intro w2 hSw; (try dsimp only at hSw); obtain ⟨s0, s1⟩ := hSw; go_simp; try with_reducible rfl)
  try simp only [Act.put, List.setIfInBounds_toArray, List.set_cons_zero, List.set_cons_succ]
  refine plan_yes (v := ?v2) (by simp only [List.getElem?_toArray, List.getElem?_cons_zero, List.getElem?_cons_succ]; exact rfl) (Or.inl ⟨by as_aux_lemma => rfl, ?hy2⟩) ?rest2
  case hy2 => (intro w2 hSw; (try dsimp only at hSw); obtain ⟨s0, s1⟩ := hSw; go_simp; try with_reducible rfl)
  try simp only [Act.put, List.setIfInBounds_toArray, List.set_cons_zero, List.set_cons_succ]
  refine plan_yes (v := ?v3) (by simp only [List.getElem?_toArray, List.getElem?_cons_zero, List.getElem?_cons_succ]; exact rfl) (Or.inl ⟨by as_aux_lemma => rfl, ?hy3⟩) ?rest3
  case hy3 => (intro w2 hSw; (try dsimp only at hSw); obtain ⟨s0, s1⟩ := hSw; go_simp; try with_reducible rfl)
  try simp only [Act.put, List.setIfInBounds_toArray, List.set_cons_zero, List.set_cons_succ]
  refine plan_yes (v := ?v4) (by simp only [List.getElem?_toArray, List.getElem?_cons_zero, List.getElem?_cons_succ]; exact rfl) (Or.inl ⟨by as_aux_lemma => rfl, ?hy4⟩) ?rest4
  case hy4 => (intro w2 hSw; (try dsimp only at hSw); obtain ⟨s0, s1⟩ := hSw; go_simp; try with_reducible rfl)
  try simp only [Act.put, List.setIfInBounds_toArray, List.set_cons_zero, List.set_cons_succ]
  refine plan_calls (by simp only [List.getElem?_toArray, List.getElem?_cons_zero, List.getElem?_cons_succ]; exact rfl) (by as_aux_lemma => rfl) (fun K hK => ?_)
  go_simp
  refine (HE.out _).mono ?_
  rintro e w5 ⟨rfl, hb5⟩
  replace N1 := Lib.hid (N1.out.drew.call hb5)
  clear hb5 g2 g3
  have g2 : w5.cell? ⟨b, o + 2, none⟩ = some (.string (bs x2)) := (N1.out.bel.cell (p := ⟨b, o + 2, none⟩) hb).trans K2.out
  have g3 : w5.cell? ⟨w.heap.size + 1, 2, none⟩ = some (.int .i64 fv) := N1.out.at_ 2 (by decide)
  refine hK.out _ _ ⟨g2, g3⟩ ?_
  clear hK K
  try simp only [Act.put, List.setIfInBounds_toArray, List.set_cons_zero, List.set_cons_succ]
  refine plan_yes (v := ?v6) (by simp only [List.getElem?_toArray, List.getElem?_cons_zero, List.getElem?_cons_succ]; exact rfl) (Or.inl ⟨by as_aux_lemma => rfl, ?hy6⟩) ?rest6
  case hy6 => (intro w2 hSw; (try dsimp only at hSw); obtain ⟨s0, s1⟩ := hSw; go_simp; try with_reducible rfl)
  try simp only [Act.put, List.setIfInBounds_toArray, List.set_cons_zero, List.set_cons_succ]
  have f3 := N1.out.fz 3
  have c3 : w5.cell? ⟨w.heap.size + 1, 3, none⟩ = some (.int .i64 0) := N1.out.at_ 3 (by decide)
  have N2 := N1.out.set 3 (.int .i64 tv) ⟨2, 0, fv, tv, 0, 0, 0, 0, 0, 0, 0, false, []⟩ rfl
  refine plan_calls (by simp only [List.getElem?_toArray, List.getElem?_cons_zero, List.getElem?_cons_succ]; exact rfl) (by as_aux_lemma => rfl) (fun K hK => ?_)
  go_simp
  refine hK.out _ _ ⟨(N2.bel.cell (p := ⟨b, o + 2, none⟩) hb).trans K2.out, N2.at_ 2 (by decide)⟩ ?_
  clear hK K f3 c3 g2 g3
  try simp only [Act.put, List.setIfInBounds_toArray, List.set_cons_zero, List.set_cons_succ]
  refine plan_done ?_
  obtain ⟨W6, hW6⟩ : ∃ W6, W6 = w5.setCell ⟨w.heap.size + 1, 3, none⟩ (.int .i64 tv) := ⟨_, rfl⟩
  rw [← hW6] at N2 ⊢
  replace N1 := Lib.hid N2
  clear N2 hW6
  have g3 : W6.cell? ⟨b, o + 3, none⟩ = some (.string (bs x3)) := (N1.out.bel.cell (p := ⟨b, o + 3, none⟩) hb).trans K3.out
  go_wp2_with fail
  refine (HMo.out _ (kx_keep hK N1.out.bel)).mono ?_
  rintro e w7 ⟨rfl, hb7⟩
  replace N1 := Lib.hid (N1.out.call hb7)
  clear hb7 g3
  have N2 := Lib.hid (N1.out.set 4 (.int .i64 mv) ⟨2, 0, fv, tv, mv, 0, 0, 0, 0, 0, 0, false, []⟩ rfl)
  have f1 := N1.out.fz 4
  have c1 : w7.cell? ⟨w.heap.size + 1, 4, none⟩ = some (.int .i64 0) := N1.out.at_ 4 (by decide)
  have g4 : (w7.setCell ⟨w.heap.size + 1, 4, none⟩ (.int .i64 mv)).cell? ⟨b, o + 4, none⟩ = some (.string (bs x4)) := (N2.out.bel.cell (p := ⟨b, o + 4, none⟩) hb).trans K4.out
  go_wp2_with fail
  refine (HD.out _ (tw_keep hTw N2.out.bel)).mono ?_
  rintro e w8 ⟨rfl, hb1⟩
  replace N1 := Lib.hid (N2.out.call hb1)
  clear hb1 N2 f1 c1 g4
  go_wp2_with fail
  refine (HD2.out _).mono ?_
  rintro e w9 ⟨rfl, hb1⟩
  replace N1 := Lib.hid (N1.out.call hb1)
  clear hb1
  have N2 := Lib.hid (N1.out.set3 5 (.int .i64 d0) (.int .i64 d1) (.int .i64 d2) ⟨2, 0, fv, tv, mv, d0, d1, d2, 0, 0, 0, false, []⟩ rfl)
  have f5 := N1.out.fz 5
  have f6 := N1.out.fz 6
  have f7 := N1.out.fz 7
  have c5 : w9.cell? ⟨w.heap.size + 1, 5, none⟩ = some (.int .i64 0) := N1.out.at_ 5 (by decide)
  have c6 : w9.cell? ⟨w.heap.size + 1, 6, none⟩ = some (.int .i64 0) := N1.out.at_ 6 (by decide)
  have c7 : w9.cell? ⟨w.heap.size + 1, 7, none⟩ = some (.int .i64 0) := N1.out.at_ 7 (by decide)
  have g5 : (((w9.setCell ⟨w.heap.size + 1, 5, none⟩ (.int .i64 d0)).setCell ⟨w.heap.size + 1, 6, none⟩ (.int .i64 d1)).setCell ⟨w.heap.size + 1, 7, none⟩ (.int .i64 d2)).cell? ⟨b, o + 5, none⟩ = some (.string (bs x5)) := (N2.out.bel.cell (p := ⟨b, o + 5, none⟩) hb).trans K5.out
  go_wp2_with fail
  refine (HT.out _).mono ?_
  rintro e w10 ⟨rfl, hb1⟩
  replace N1 := Lib.hid (N2.out.call hb1)
  clear hb1 N2 f5 f6 f7 c5 c6 c7 g5
  go_wp2_with fail
  refine (HT2.out _).mono ?_
  rintro e w11 ⟨rfl, hb1⟩
  exact ⟨rfl, rfl, (N1.out.call hb1).bel⟩
set_option maxHeartbeats 3200000 in
set_option maxRecDepth 100000 in
theorem pYearly_read (E : Int) (b o c : Nat) (w : World) (hb : b < w.heap.size) (x1 x2 x3 x4 x5 x6 : List UInt8) (hTw : Hid (TW w)) (hK : Hid (KX w)) (fv tv mv d0 d1 d2 tiv rv t0 : Int) (t1 : Bool) (t2 : List UInt8) (hc : 10 ≤ c) (K1 : Hid (w.cell? ⟨b, o + 1, none⟩ = some (.string (bs x1)))) (K2 : Hid (w.cell? ⟨b, o + 2, none⟩ = some (.string (bs x2)))) (K3 : Hid (w.cell? ⟨b, o + 3, none⟩ = some (.string (bs x3)))) (K4 : Hid (w.cell? ⟨b, o + 4, none⟩ = some (.string (bs x4)))) (K5 : Hid (w.cell? ⟨b, o + 5, none⟩ = some (.string (bs x5)))) (K6 : Hid (w.cell? ⟨b, o + 6, none⟩ = some (.string (bs x6)))) (HY : Hid (∀ w, Calls Tryz.prog 95 #[.string (bs x1)] w fun e w' => e = .returned (.tuple #[.int .i64 fv, .int .i64 0]) ∧ Below w.heap.size w w')) (HY2 : Hid (∀ w, Calls Tryz.prog 62 #[.int .i64 fv, .int .i64 0] w fun e w' => e = .returned (.int .i64 fv) ∧ Below w.heap.size w w')) (HE : Hid (∀ w, Calls Tryz.prog 96 #[.string (bs x2), .int .i64 fv] w fun e w' => e = .returned (.int .i64 tv) ∧ Below w.heap.size w w')) (HMo : Hid (∀ w, KX w → Calls Tryz.prog 97 #[.string (bs x3)] w fun e w' => e = .returned (.int .i64 mv) ∧ Below w.heap.size w w')) (HD : Hid (∀ w, TW w → Calls Tryz.prog 69 #[.string (bs x4)] w fun e w' => e = .returned (.tuple #[.agg #[.int .i64 d0, .int .i64 d1, .int .i64 d2], .int .i64 0]) ∧ Below w.heap.size w w')) (HD2 : Hid (∀ w, Calls Tryz.prog 98 #[.agg #[.int .i64 d0, .int .i64 d1, .int .i64 d2], .int .i64 0] w fun e w' => e = .returned (.agg #[.int .i64 d0, .int .i64 d1, .int .i64 d2]) ∧ Below w.heap.size w w')) (HT : Hid (∀ w, Calls Tryz.prog 99 #[.string (bs x5)] w fun e w' => e = .returned (.tuple #[.int .i64 tiv, .int .i64 0]) ∧ Below w.heap.size w w')) (HT2 : Hid (∀ w, Calls Tryz.prog 62 #[.int .i64 tiv, .int .i64 0] w fun e w' => e = .returned (.int .i64 tiv) ∧ Below w.heap.size w w')) (HO : Hid (∀ w, Calls Tryz.prog 63 #[.string (bs x6)] w fun e w' => e = .returned (.tuple #[.int .i64 rv, .int .i64 E]) ∧ Below w.heap.size w w')) (HO2 : Hid (∀ w, Calls Tryz.prog 62 #[.int .i64 rv, .int .i64 E] w fun e w' => e = pan E ∧ Below w.heap.size w w')) :
    Calls Tryz.prog 79 #[.slice (some ⟨b, o, none⟩) 10 c] w fun e w' => e = pan E ∧ Below w.heap.size w w' := by
  go_enter Tryz.func79, Tryz.ntmps79
  refine wp_shut ?_
  go_wp2_with (first | (refine li_store (by rfl) _ _ (by rfl) ⟨2, 0, 0, 0, 0, 0, 0, 0, 0, 0, 0, false, []⟩ (by kernel_rfl) (by rfl) (by unfold linC; rw [bs_empty]; rfl) ?_; intro W1 N1; refine Hid.out ?_) | fail)
  refine Lib.hid ?_
  have g1 : W1.cell? ⟨b, o + 1, none⟩ = some (.string (bs x1)) := (N1.bel.cell (p := ⟨b, o + 1, none⟩) hb).trans K1.out
  replace N1 := Lib.hid N1
  go_wp2_with fail
  refine (HY.out _).mono ?_
  rintro e w2 ⟨rfl, hb2⟩
  replace N1 := Lib.hid (N1.out.call hb2)
  clear hb2 g1
  go_wp2_with fail
  refine (HY2.out _).mono ?_
  rintro e w3 ⟨rfl, hb3⟩
  replace N1 := Lib.hid (N1.out.call hb3)
  clear hb3
  have N2 := N1.out.set 2 (.int .i64 fv) ⟨2, 0, fv, 0, 0, 0, 0, 0, 0, 0, 0, false, []⟩ rfl
  have f2 := N1.out.fz 2
  have c2 : w3.cell? ⟨w.heap.size + 1, 2, none⟩ = some (.int .i64 0) := N1.out.at_ 2 (by decide)
  go_wp2_with fail
  clear f2 c2
  obtain ⟨W4, hW4⟩ : ∃ W4, W4 = w3.setCell ⟨w.heap.size + 1, 2, none⟩ (.int .i64 fv) := ⟨_, rfl⟩
  rw [← hW4] at N2 ⊢
  replace N1 := Lib.hid N2
  clear N2 hW4
  have g2 : W4.cell? ⟨b, o + 2, none⟩ = some (.string (bs x2)) := (N1.out.bel.cell (p := ⟨b, o + 2, none⟩) hb).trans K2.out
  have g3 : W4.cell? ⟨w.heap.size + 1, 2, none⟩ = some (.int .i64 fv) := N1.out.at_ 2 (by decide)
  refine region_planQ (S := fun w2 => w2.cell? ⟨b, o + 2, none⟩ = some (.string (bs x2)) ∧ w2.cell? ⟨w.heap.size + 1, 2, none⟩ = some (.int .i64 fv)) [(0, true), (1, true), (2, true), (3, true), (4, true), (5, false), (6, true), (7, false)] (by as_aux_lemma => kernel_rfl) (by as_aux_lemma => kernel_rfl) (by as_aux_lemma => kernel_rfl) (by as_aux_lemma => kernel_rfl) ⟨by rw [World.cell?_drew]; exact g2, by rw [World.cell?_drew]; exact g3⟩ planQ_shut ?_
  refine plan_yes (v := ?v0) (by simp only [List.getElem?_toArray, List.getElem?_cons_zero, List.getElem?_cons_succ]; exact rfl) (Or.inl ⟨by as_aux_lemma => rfl, ?hy0⟩) ?rest0
  case hy0 => (intro w2 hSw; (try dsimp only at hSw); obtain ⟨s0, s1⟩ := hSw; go_simp; try with_reducible rfl)
  try simp only [Act.put, List.setIfInBounds_toArray, List.set_cons_zero, List.set_cons_succ]
  refine plan_yes (v := ?v1) (by simp only [List.getElem?_toArray, List.getElem?_cons_zero, List.getElem?_cons_succ]; exact rfl) (Or.inl ⟨by as_aux_lemma => rfl, ?hy1⟩) ?rest1
  case hy1 => (intro w2 hSw; (try dsimp only at hSw); obtain ⟨s0, s1⟩ := hSw; go_simp; try with_reducible rfl)
  try simp only [Act.put, List.setIfInBounds_toArray, List.set_cons_zero, List.set_cons_succ]
  refine plan_yes (v := ?v2) (by simp only [List.getElem?_toArray, List.getElem?_cons_zero, List.getElem?_cons_succ]; exact rfl) (Or.inl ⟨by as_aux_lemma => rfl, ?hy2⟩) ?rest2
  case hy2 => (intro w2 hSw; (try dsimp only at hSw); obtain ⟨s0, s1⟩ := hSw; go_simp; try with_reducible rfl)
  try simp only [Act.put, List.setIfInBounds_toArray, List.set_cons_zero, List.set_cons_succ]
  refine plan_yes (v := ?v3) (by simp only [List.getElem?_toArray, List.getElem?_cons_zero, List.getElem?_cons_succ]; exact rfl) (Or.inl ⟨by as_aux_lemma => rfl, ?hy3⟩) ?rest3
  case hy3 => (intro w2 hSw; (try dsimp only at hSw); obtain ⟨s0, s1⟩ := hSw; go_simp; try with_reducible rfl)
  try simp only [Act.put, List.setIfInBounds_toArray, List.set_cons_zero, List.set_cons_succ]
  refine plan_yes (v := ?v4) (by simp only [List.getElem?_toArray, List.getElem?_cons_zero, List.getElem?_cons_succ]; exact rfl) (Or.inl ⟨by as_aux_lemma => rfl, ?hy4⟩) ?rest4
  case hy4 => (intro w2 hSw; (try dsimp only at hSw); obtain ⟨s0, s1⟩ := hSw; go_simp; try with_reducible rfl)
  try simp only [Act.put, List.setIfInBounds_toArray, List.set_cons_zero, List.set_cons_succ]
  refine plan_calls (by simp only [List.getElem?_toArray, List.getElem?_cons_zero, List.getElem?_cons_succ]; exact rfl) (by as_aux_lemma => rfl) (fun K hK => ?_)
  go_simp
  refine (HE.out _).mono ?_
  rintro e w5 ⟨rfl, hb5⟩
  replace N1 := Lib.hid (N1.out.drew.call hb5)
  clear hb5 g2 g3
  have g2 : w5.cell? ⟨b, o + 2, none⟩ = some (.string (bs x2)) := (N1.out.bel.cell (p := ⟨b, o + 2, none⟩) hb).trans K2.out
  have g3 : w5.cell? ⟨w.heap.size + 1, 2, none⟩ = some (.int .i64 fv) := N1.out.at_ 2 (by decide)
  refine hK.out _ _ ⟨g2, g3⟩ ?_
  clear hK K
  try simp only [Act.put, List.setIfInBounds_toArray, List.set_cons_zero, List.set_cons_succ]
  refine plan_yes (v := ?v6) (by simp only [List.getElem?_toArray, List.getElem?_cons_zero, List.getElem?_cons_succ]; exact rfl) (Or.inl ⟨by as_aux_lemma => rfl, ?hy6⟩) ?rest6
  case hy6 => (intro w2 hSw; (try dsimp only at hSw); obtain ⟨s0, s1⟩ := hSw; go_simp; try with_reducible rfl)
  try simp only [Act.put, List.setIfInBounds_toArray, List.set_cons_zero, List.set_cons_succ]
  have f3 := N1.out.fz 3
  have c3 : w5.cell? ⟨w.heap.size + 1, 3, none⟩ = some (.int .i64 0) := N1.out.at_ 3 (by decide)
  have N2 := N1.out.set 3 (.int .i64 tv) ⟨2, 0, fv, tv, 0, 0, 0, 0, 0, 0, 0, false, []⟩ rfl
  refine plan_calls (by simp only [List.getElem?_toArray, List.getElem?_cons_zero, List.getElem?_cons_succ]; exact rfl) (by as_aux_lemma => rfl) (fun K hK => ?_)
  go_simp
  refine hK.out _ _ ⟨(N2.bel.cell (p := ⟨b, o + 2, none⟩) hb).trans K2.out, N2.at_ 2 (by decide)⟩ ?_
  clear hK K f3 c3 g2 g3
  try simp only [Act.put, List.setIfInBounds_toArray, List.set_cons_zero, List.set_cons_succ]
  refine plan_done ?_
  obtain ⟨W6, hW6⟩ : ∃ W6, W6 = w5.setCell ⟨w.heap.size + 1, 3, none⟩ (.int .i64 tv) := ⟨_, rfl⟩
  rw [← hW6] at N2 ⊢
  replace N1 := Lib.hid N2
  clear N2 hW6
  have g3 : W6.cell? ⟨b, o + 3, none⟩ = some (.string (bs x3)) := (N1.out.bel.cell (p := ⟨b, o + 3, none⟩) hb).trans K3.out
  go_wp2_with fail
  refine (HMo.out _ (kx_keep hK N1.out.bel)).mono ?_
  rintro e w7 ⟨rfl, hb7⟩
  replace N1 := Lib.hid (N1.out.call hb7)
  clear hb7 g3
  have N2 := Lib.hid (N1.out.set 4 (.int .i64 mv) ⟨2, 0, fv, tv, mv, 0, 0, 0, 0, 0, 0, false, []⟩ rfl)
  have f1 := N1.out.fz 4
  have c1 : w7.cell? ⟨w.heap.size + 1, 4, none⟩ = some (.int .i64 0) := N1.out.at_ 4 (by decide)
  have g4 : (w7.setCell ⟨w.heap.size + 1, 4, none⟩ (.int .i64 mv)).cell? ⟨b, o + 4, none⟩ = some (.string (bs x4)) := (N2.out.bel.cell (p := ⟨b, o + 4, none⟩) hb).trans K4.out
  go_wp2_with fail
  refine (HD.out _ (tw_keep hTw N2.out.bel)).mono ?_
  rintro e w8 ⟨rfl, hb1⟩
  replace N1 := Lib.hid (N2.out.call hb1)
  clear hb1 N2 f1 c1 g4
  go_wp2_with fail
  refine (HD2.out _).mono ?_
  rintro e w9 ⟨rfl, hb1⟩
  replace N1 := Lib.hid (N1.out.call hb1)
  clear hb1
  have N2 := Lib.hid (N1.out.set3 5 (.int .i64 d0) (.int .i64 d1) (.int .i64 d2) ⟨2, 0, fv, tv, mv, d0, d1, d2, 0, 0, 0, false, []⟩ rfl)
  have f5 := N1.out.fz 5
  have f6 := N1.out.fz 6
  have f7 := N1.out.fz 7
  have c5 : w9.cell? ⟨w.heap.size + 1, 5, none⟩ = some (.int .i64 0) := N1.out.at_ 5 (by decide)
  have c6 : w9.cell? ⟨w.heap.size + 1, 6, none⟩ = some (.int .i64 0) := N1.out.at_ 6 (by decide)
  have c7 : w9.cell? ⟨w.heap.size + 1, 7, none⟩ = some (.int .i64 0) := N1.out.at_ 7 (by decide)
  have g5 : (((w9.setCell ⟨w.heap.size + 1, 5, none⟩ (.int .i64 d0)).setCell ⟨w.heap.size + 1, 6, none⟩ (.int .i64 d1)).setCell ⟨w.heap.size + 1, 7, none⟩ (.int .i64 d2)).cell? ⟨b, o + 5, none⟩ = some (.string (bs x5)) := (N2.out.bel.cell (p := ⟨b, o + 5, none⟩) hb).trans K5.out
  go_wp2_with fail
  refine (HT.out _).mono ?_
  rintro e w10 ⟨rfl, hb1⟩
  replace N1 := Lib.hid (N2.out.call hb1)
  clear hb1 N2 f5 f6 f7 c5 c6 c7 g5
  go_wp2_with fail
  refine (HT2.out _).mono ?_
  rintro e w11 ⟨rfl, hb1⟩
  replace N1 := Lib.hid (N1.out.call hb1)
  clear hb1
  have N2 := Lib.hid (N1.out.set 8 (.int .i64 tiv) ⟨2, 0, fv, tv, mv, d0, d1, d2, tiv, 0, 0, false, []⟩ rfl)
  have f1 := N1.out.fz 8
  have c1 : w11.cell? ⟨w.heap.size + 1, 8, none⟩ = some (.int .i64 0) := N1.out.at_ 8 (by decide)
  have g6 : (w11.setCell ⟨w.heap.size + 1, 8, none⟩ (.int .i64 tiv)).cell? ⟨b, o + 6, none⟩ = some (.string (bs x6)) := (N2.out.bel.cell (p := ⟨b, o + 6, none⟩) hb).trans K6.out
  go_wp2_with fail
  refine (HO.out _).mono ?_
  rintro e w12 ⟨rfl, hb1⟩
  replace N1 := Lib.hid (N2.out.call hb1)
  clear hb1 N2 f1 c1 g6
  go_wp2_with fail
  refine (HO2.out _).mono ?_
  rintro e w13 ⟨rfl, hb1⟩
  exact ⟨rfl, rfl, (N1.out.call hb1).bel⟩
set_option maxHeartbeats 3200000 in
set_option maxRecDepth 100000 in
theorem pYearly_tri (E : Int) (b o c : Nat) (w : World) (hb : b < w.heap.size) (x1 x2 x3 x4 x5 x6 : List UInt8) (hTw : Hid (TW w)) (hK : Hid (KX w)) (fv tv mv d0 d1 d2 tiv rv t0 : Int) (t1 : Bool) (t2 : List UInt8) (hc : 10 ≤ c) (K1 : Hid (w.cell? ⟨b, o + 1, none⟩ = some (.string (bs x1)))) (K2 : Hid (w.cell? ⟨b, o + 2, none⟩ = some (.string (bs x2)))) (K3 : Hid (w.cell? ⟨b, o + 3, none⟩ = some (.string (bs x3)))) (K4 : Hid (w.cell? ⟨b, o + 4, none⟩ = some (.string (bs x4)))) (K5 : Hid (w.cell? ⟨b, o + 5, none⟩ = some (.string (bs x5)))) (K6 : Hid (w.cell? ⟨b, o + 6, none⟩ = some (.string (bs x6)))) (HY : Hid (∀ w, Calls Tryz.prog 95 #[.string (bs x1)] w fun e w' => e = .returned (.tuple #[.int .i64 fv, .int .i64 0]) ∧ Below w.heap.size w w')) (HY2 : Hid (∀ w, Calls Tryz.prog 62 #[.int .i64 fv, .int .i64 0] w fun e w' => e = .returned (.int .i64 fv) ∧ Below w.heap.size w w')) (HE : Hid (∀ w, Calls Tryz.prog 96 #[.string (bs x2), .int .i64 fv] w fun e w' => e = .returned (.int .i64 tv) ∧ Below w.heap.size w w')) (HMo : Hid (∀ w, KX w → Calls Tryz.prog 97 #[.string (bs x3)] w fun e w' => e = .returned (.int .i64 mv) ∧ Below w.heap.size w w')) (HD : Hid (∀ w, TW w → Calls Tryz.prog 69 #[.string (bs x4)] w fun e w' => e = .returned (.tuple #[.agg #[.int .i64 d0, .int .i64 d1, .int .i64 d2], .int .i64 0]) ∧ Below w.heap.size w w')) (HD2 : Hid (∀ w, Calls Tryz.prog 98 #[.agg #[.int .i64 d0, .int .i64 d1, .int .i64 d2], .int .i64 0] w fun e w' => e = .returned (.agg #[.int .i64 d0, .int .i64 d1, .int .i64 d2]) ∧ Below w.heap.size w w')) (HT : Hid (∀ w, Calls Tryz.prog 99 #[.string (bs x5)] w fun e w' => e = .returned (.tuple #[.int .i64 tiv, .int .i64 0]) ∧ Below w.heap.size w w')) (HT2 : Hid (∀ w, Calls Tryz.prog 62 #[.int .i64 tiv, .int .i64 0] w fun e w' => e = .returned (.int .i64 tiv) ∧ Below w.heap.size w w')) (HO : Hid (∀ w, Calls Tryz.prog 63 #[.string (bs x6)] w fun e w' => e = .returned (.tuple #[.int .i64 rv, .int .i64 0]) ∧ Below w.heap.size w w')) (HO2 : Hid (∀ w, Calls Tryz.prog 62 #[.int .i64 rv, .int .i64 0] w fun e w' => e = .returned (.int .i64 rv) ∧ Below w.heap.size w w')) (HR : Hid (∀ W, Below w.heap.size w W → Calls Tryz.prog 94 #[.slice (some ⟨b, o + 7, none⟩) 3 (c - 7)] W fun e w' => e = pan E ∧ Below W.heap.size W w')) :
    Calls Tryz.prog 79 #[.slice (some ⟨b, o, none⟩) 10 c] w fun e w' => e = pan E ∧ Below w.heap.size w w' := by
  go_enter Tryz.func79, Tryz.ntmps79
  refine wp_shut ?_
  go_wp2_with (first | (refine li_store (by rfl) _ _ (by rfl) ⟨2, 0, 0, 0, 0, 0, 0, 0, 0, 0, 0, false, []⟩ (by kernel_rfl) (by rfl) (by unfold linC; rw [bs_empty]; rfl) ?_; intro W1 N1; refine Hid.out ?_) | fail)
  refine Lib.hid ?_
  have g1 : W1.cell? ⟨b, o + 1, none⟩ = some (.string (bs x1)) := (N1.bel.cell (p := ⟨b, o + 1, none⟩) hb).trans K1.out
  replace N1 := Lib.hid N1
  go_wp2_with fail
  refine (HY.out _).mono ?_
  rintro e w2 ⟨rfl, hb2⟩
  replace N1 := Lib.hid (N1.out.call hb2)
  clear hb2 g1
  go_wp2_with fail
  refine (HY2.out _).mono ?_
  rintro e w3 ⟨rfl, hb3⟩
  replace N1 := Lib.hid (N1.out.call hb3)
  clear hb3
  have N2 := N1.out.set 2 (.int .i64 fv) ⟨2, 0, fv, 0, 0, 0, 0, 0, 0, 0, 0, false, []⟩ rfl
  have f2 := N1.out.fz 2
  have c2 : w3.cell? ⟨w.heap.size + 1, 2, none⟩ = some (.int .i64 0) := N1.out.at_ 2 (by decide)
  go_wp2_with fail
  clear f2 c2
  obtain ⟨W4, hW4⟩ : ∃ W4, W4 = w3.setCell ⟨w.heap.size + 1, 2, none⟩ (.int .i64 fv) := ⟨_, rfl⟩
  rw [← hW4] at N2 ⊢
  replace N1 := Lib.hid N2
  clear N2 hW4
  have g2 : W4.cell? ⟨b, o + 2, none⟩ = some (.string (bs x2)) := (N1.out.bel.cell (p := ⟨b, o + 2, none⟩) hb).trans K2.out
  have g3 : W4.cell? ⟨w.heap.size + 1, 2, none⟩ = some (.int .i64 fv) := N1.out.at_ 2 (by decide)
  refine region_planQ (S := fun w2 => w2.cell? ⟨b, o + 2, none⟩ = some (.string (bs x2)) ∧ w2.cell? ⟨w.heap.size + 1, 2, none⟩ = some (.int .i64 fv)) [(0, true), (1, true), (2, true), (3, true), (4, true), (5, false), (6, true), (7, false)] (by as_aux_lemma => kernel_rfl) (by as_aux_lemma => kernel_rfl) (by as_aux_lemma => kernel_rfl) (by as_aux_lemma => kernel_rfl) ⟨by rw [World.cell?_drew]; exact g2, by rw [World.cell?_drew]; exact g3⟩ planQ_shut ?_
  refine plan_yes (v := ?v0) (by simp only [List.getElem?_toArray, List.getElem?_cons_zero, List.getElem?_cons_succ]; exact rfl) (Or.inl ⟨by as_aux_lemma => rfl, ?hy0⟩) ?rest0
  case hy0 => (intro w2 hSw; (try dsimp only at hSw); obtain ⟨s0, s1⟩ := hSw; go_simp; try with_reducible rfl)
  try simp only [Act.put, List.setIfInBounds_toArray, List.set_cons_zero, List.set_cons_succ]
  refine plan_yes (v := ?v1) (by simp only [List.getElem?_toArray, List.getElem?_cons_zero, List.getElem?_cons_succ]; exact rfl) (Or.inl ⟨by as_aux_lemma => rfl, ?hy1⟩) ?rest1
  case hy1 => (intro w2 hSw; (try dsimp only at hSw); obtain ⟨s0, s1⟩ := hSw; go_simp; try with_reducible rfl)
  try simp only [Act.put, List.setIfInBounds_toArray, List.set_cons_zero, List.set_cons_succ]
  refine plan_yes (v := ?v2) (by simp only [List.getElem?_toArray, List.getElem?_cons_zero, List.getElem?_cons_succ]; exact rfl) (Or.inl ⟨by as_aux_lemma => rfl, ?hy2⟩) ?rest2
  case hy2 => (intro w2 hSw; (try dsimp only at hSw); obtain ⟨s0, s1⟩ := hSw; go_simp; try with_reducible rfl)
  try simp only [Act.put, List.setIfInBounds_toArray, List.set_cons_zero, List.set_cons_succ]
  refine plan_yes (v := ?v3) (by simp only [List.getElem?_toArray, List.getElem?_cons_zero, List.getElem?_cons_succ]; exact rfl) (Or.inl ⟨by as_aux_lemma => rfl, ?hy3⟩) ?rest3
  case hy3 => (intro w2 hSw; (try dsimp only at hSw); obtain ⟨s0, s1⟩ := hSw; go_simp; try with_reducible rfl)
  try simp only [Act.put, List.setIfInBounds_toArray, List.set_cons_zero, List.set_cons_succ]
  refine plan_yes (v := ?v4) (by simp only [List.getElem?_toArray, List.getElem?_cons_zero, List.getElem?_cons_succ]; exact rfl) (Or.inl ⟨by as_aux_lemma => rfl, ?hy4⟩) ?rest4
  case hy4 => (intro w2 hSw; (try dsimp only at hSw); obtain ⟨s0, s1⟩ := hSw; go_simp; try with_reducible rfl)
  try simp only [Act.put, List.setIfInBounds_toArray, List.set_cons_zero, List.set_cons_succ]
  refine plan_calls (by simp only [List.getElem?_toArray, List.getElem?_cons_zero, List.getElem?_cons_succ]; exact rfl) (by as_aux_lemma => rfl) (fun K hK => ?_)
  go_simp
  refine (HE.out _).mono ?_
  rintro e w5 ⟨rfl, hb5⟩
  replace N1 := Lib.hid (N1.out.drew.call hb5)
  clear hb5 g2 g3
  have g2 : w5.cell? ⟨b, o + 2, none⟩ = some (.string (bs x2)) := (N1.out.bel.cell (p := ⟨b, o + 2, none⟩) hb).trans K2.out
  have g3 : w5.cell? ⟨w.heap.size + 1, 2, none⟩ = some (.int .i64 fv) := N1.out.at_ 2 (by decide)
  refine hK.out _ _ ⟨g2, g3⟩ ?_
  clear hK K
  try simp only [Act.put, List.setIfInBounds_toArray, List.set_cons_zero, List.set_cons_succ]
  refine plan_yes (v := ?v6) (by simp only [List.getElem?_toArray, List.getElem?_cons_zero, List.getElem?_cons_succ]; exact rfl) (Or.inl ⟨by as_aux_lemma => rfl, ?hy6⟩) ?rest6
  case hy6 => (intro w2 hSw; (try dsimp only at hSw); obtain ⟨s0, s1⟩ := hSw; go_simp; try with_reducible rfl)
  try simp only [Act.put, List.setIfInBounds_toArray, List.set_cons_zero, List.set_cons_succ]
  have f3 := N1.out.fz 3
  have c3 : w5.cell? ⟨w.heap.size + 1, 3, none⟩ = some (.int .i64 0) := N1.out.at_ 3 (by decide)
  have N2 := N1.out.set 3 (.int .i64 tv) ⟨2, 0, fv, tv, 0, 0, 0, 0, 0, 0, 0, false, []⟩ rfl
  refine plan_calls (by simp only [List.getElem?_toArray, List.getElem?_cons_zero, List.getElem?_cons_succ]; exact rfl) (by as_aux_lemma => rfl) (fun K hK => ?_)
  go_simp
  refine hK.out _ _ ⟨(N2.bel.cell (p := ⟨b, o + 2, none⟩) hb).trans K2.out, N2.at_ 2 (by decide)⟩ ?_
  clear hK K f3 c3 g2 g3
  try simp only [Act.put, List.setIfInBounds_toArray, List.set_cons_zero, List.set_cons_succ]
  refine plan_done ?_
  obtain ⟨W6, hW6⟩ : ∃ W6, W6 = w5.setCell ⟨w.heap.size + 1, 3, none⟩ (.int .i64 tv) := ⟨_, rfl⟩
  rw [← hW6] at N2 ⊢
  replace N1 := Lib.hid N2
  clear N2 hW6
  have g3 : W6.cell? ⟨b, o + 3, none⟩ = some (.string (bs x3)) := (N1.out.bel.cell (p := ⟨b, o + 3, none⟩) hb).trans K3.out
  go_wp2_with fail
  refine (HMo.out _ (kx_keep hK N1.out.bel)).mono ?_
  rintro e w7 ⟨rfl, hb7⟩
  replace N1 := Lib.hid (N1.out.call hb7)
  clear hb7 g3
  have N2 := Lib.hid (N1.out.set 4 (.int .i64 mv) ⟨2, 0, fv, tv, mv, 0, 0, 0, 0, 0, 0, false, []⟩ rfl)
  have f1 := N1.out.fz 4
  have c1 : w7.cell? ⟨w.heap.size + 1, 4, none⟩ = some (.int .i64 0) := N1.out.at_ 4 (by decide)
  have g4 : (w7.setCell ⟨w.heap.size + 1, 4, none⟩ (.int .i64 mv)).cell? ⟨b, o + 4, none⟩ = some (.string (bs x4)) := (N2.out.bel.cell (p := ⟨b, o + 4, none⟩) hb).trans K4.out
  go_wp2_with fail
  refine (HD.out _ (tw_keep hTw N2.out.bel)).mono ?_
  rintro e w8 ⟨rfl, hb1⟩
  replace N1 := Lib.hid (N2.out.call hb1)
  clear hb1 N2 f1 c1 g4
  go_wp2_with fail
  refine (HD2.out _).mono ?_
  rintro e w9 ⟨rfl, hb1⟩
  replace N1 := Lib.hid (N1.out.call hb1)
  clear hb1
  have N2 := Lib.hid (N1.out.set3 5 (.int .i64 d0) (.int .i64 d1) (.int .i64 d2) ⟨2, 0, fv, tv, mv, d0, d1, d2, 0, 0, 0, false, []⟩ rfl)
  have f5 := N1.out.fz 5
  have f6 := N1.out.fz 6
  have f7 := N1.out.fz 7
  have c5 : w9.cell? ⟨w.heap.size + 1, 5, none⟩ = some (.int .i64 0) := N1.out.at_ 5 (by decide)
  have c6 : w9.cell? ⟨w.heap.size + 1, 6, none⟩ = some (.int .i64 0) := N1.out.at_ 6 (by decide)
  have c7 : w9.cell? ⟨w.heap.size + 1, 7, none⟩ = some (.int .i64 0) := N1.out.at_ 7 (by decide)
  have g5 : (((w9.setCell ⟨w.heap.size + 1, 5, none⟩ (.int .i64 d0)).setCell ⟨w.heap.size + 1, 6, none⟩ (.int .i64 d1)).setCell ⟨w.heap.size + 1, 7, none⟩ (.int .i64 d2)).cell? ⟨b, o + 5, none⟩ = some (.string (bs x5)) := (N2.out.bel.cell (p := ⟨b, o + 5, none⟩) hb).trans K5.out
  go_wp2_with fail
  refine (HT.out _).mono ?_
  rintro e w10 ⟨rfl, hb1⟩
  replace N1 := Lib.hid (N2.out.call hb1)
  clear hb1 N2 f5 f6 f7 c5 c6 c7 g5
  go_wp2_with fail
  refine (HT2.out _).mono ?_
  rintro e w11 ⟨rfl, hb1⟩
  replace N1 := Lib.hid (N1.out.call hb1)
  clear hb1
  have N2 := Lib.hid (N1.out.set 8 (.int .i64 tiv) ⟨2, 0, fv, tv, mv, d0, d1, d2, tiv, 0, 0, false, []⟩ rfl)
  have f1 := N1.out.fz 8
  have c1 : w11.cell? ⟨w.heap.size + 1, 8, none⟩ = some (.int .i64 0) := N1.out.at_ 8 (by decide)
  have g6 : (w11.setCell ⟨w.heap.size + 1, 8, none⟩ (.int .i64 tiv)).cell? ⟨b, o + 6, none⟩ = some (.string (bs x6)) := (N2.out.bel.cell (p := ⟨b, o + 6, none⟩) hb).trans K6.out
  go_wp2_with fail
  refine (HO.out _).mono ?_
  rintro e w12 ⟨rfl, hb1⟩
  replace N1 := Lib.hid (N2.out.call hb1)
  clear hb1 N2 f1 c1 g6
  go_wp2_with fail
  refine (HO2.out _).mono ?_
  rintro e w13 ⟨rfl, hb1⟩
  replace N1 := Lib.hid (N1.out.call hb1)
  clear hb1
  have N2 := Lib.hid (N1.out.set 9 (.int .i64 rv) ⟨2, 0, fv, tv, mv, d0, d1, d2, tiv, rv, 0, false, []⟩ rfl)
  have f1 := N1.out.fz 9
  have c1 : w13.cell? ⟨w.heap.size + 1, 9, none⟩ = some (.int .i64 0) := N1.out.at_ 9 (by decide)
  go_wp2_with fail
  refine (HR.out _ N2.out.bel).mono ?_
  rintro e w14 ⟨rfl, hb1⟩
  exact ⟨rfl, rfl, (N2.out.call hb1).bel⟩
set_option maxHeartbeats 3200000 in
set_option maxRecDepth 100000 in
theorem pYearly_fall (E : Int) (b o c : Nat) (w : World) (hb : b < w.heap.size) (x1 x2 x3 x4 x5 x6 : List UInt8) (hTw : Hid (TW w)) (hK : Hid (KX w)) (fv tv mv d0 d1 d2 tiv rv t0 : Int) (t1 : Bool) (t2 : List UInt8) (hc : 10 ≤ c) (K1 : Hid (w.cell? ⟨b, o + 1, none⟩ = some (.string (bs x1)))) (K2 : Hid (w.cell? ⟨b, o + 2, none⟩ = some (.string (bs x2)))) (K3 : Hid (w.cell? ⟨b, o + 3, none⟩ = some (.string (bs x3)))) (K4 : Hid (w.cell? ⟨b, o + 4, none⟩ = some (.string (bs x4)))) (K5 : Hid (w.cell? ⟨b, o + 5, none⟩ = some (.string (bs x5)))) (K6 : Hid (w.cell? ⟨b, o + 6, none⟩ = some (.string (bs x6)))) (HY : Hid (∀ w, Calls Tryz.prog 95 #[.string (bs x1)] w fun e w' => e = .returned (.tuple #[.int .i64 fv, .int .i64 0]) ∧ Below w.heap.size w w')) (HY2 : Hid (∀ w, Calls Tryz.prog 62 #[.int .i64 fv, .int .i64 0] w fun e w' => e = .returned (.int .i64 fv) ∧ Below w.heap.size w w')) (HE : Hid (∀ w, Calls Tryz.prog 96 #[.string (bs x2), .int .i64 fv] w fun e w' => e = .returned (.int .i64 tv) ∧ Below w.heap.size w w')) (HMo : Hid (∀ w, KX w → Calls Tryz.prog 97 #[.string (bs x3)] w fun e w' => e = .returned (.int .i64 mv) ∧ Below w.heap.size w w')) (HD : Hid (∀ w, TW w → Calls Tryz.prog 69 #[.string (bs x4)] w fun e w' => e = .returned (.tuple #[.agg #[.int .i64 d0, .int .i64 d1, .int .i64 d2], .int .i64 0]) ∧ Below w.heap.size w w')) (HD2 : Hid (∀ w, Calls Tryz.prog 98 #[.agg #[.int .i64 d0, .int .i64 d1, .int .i64 d2], .int .i64 0] w fun e w' => e = .returned (.agg #[.int .i64 d0, .int .i64 d1, .int .i64 d2]) ∧ Below w.heap.size w w')) (HT : Hid (∀ w, Calls Tryz.prog 99 #[.string (bs x5)] w fun e w' => e = .returned (.tuple #[.int .i64 tiv, .int .i64 0]) ∧ Below w.heap.size w w')) (HT2 : Hid (∀ w, Calls Tryz.prog 62 #[.int .i64 tiv, .int .i64 0] w fun e w' => e = .returned (.int .i64 tiv) ∧ Below w.heap.size w w')) (HO : Hid (∀ w, Calls Tryz.prog 63 #[.string (bs x6)] w fun e w' => e = .returned (.tuple #[.int .i64 rv, .int .i64 0]) ∧ Below w.heap.size w w')) (HO2 : Hid (∀ w, Calls Tryz.prog 62 #[.int .i64 rv, .int .i64 0] w fun e w' => e = .returned (.int .i64 rv) ∧ Below w.heap.size w w')) (HR : Hid (∀ W, Below w.heap.size w W → Calls Tryz.prog 94 #[.slice (some ⟨b, o + 7, none⟩) 3 (c - 7)] W fun e w' => e = .returned (.agg #[.int .i64 t0, .bool t1, .string (bs t2)]) ∧ Below W.heap.size W w')) (hf : decide (tv < fv) = true) :
    Calls Tryz.prog 79 #[.slice (some ⟨b, o, none⟩) 10 c] w fun e w' => e = pan 5 ∧ Below w.heap.size w w' := by
  go_enter Tryz.func79, Tryz.ntmps79
  refine wp_shut ?_
  go_wp2_with (first | (refine li_store (by rfl) _ _ (by rfl) ⟨2, 0, 0, 0, 0, 0, 0, 0, 0, 0, 0, false, []⟩ (by kernel_rfl) (by rfl) (by unfold linC; rw [bs_empty]; rfl) ?_; intro W1 N1; refine Hid.out ?_) | fail)
  refine Lib.hid ?_
  have g1 : W1.cell? ⟨b, o + 1, none⟩ = some (.string (bs x1)) := (N1.bel.cell (p := ⟨b, o + 1, none⟩) hb).trans K1.out
  replace N1 := Lib.hid N1
  go_wp2_with fail
  refine (HY.out _).mono ?_
  rintro e w2 ⟨rfl, hb2⟩
  replace N1 := Lib.hid (N1.out.call hb2)
  clear hb2 g1
  go_wp2_with fail
  refine (HY2.out _).mono ?_
  rintro e w3 ⟨rfl, hb3⟩
  replace N1 := Lib.hid (N1.out.call hb3)
  clear hb3
  have N2 := N1.out.set 2 (.int .i64 fv) ⟨2, 0, fv, 0, 0, 0, 0, 0, 0, 0, 0, false, []⟩ rfl
  have f2 := N1.out.fz 2
  have c2 : w3.cell? ⟨w.heap.size + 1, 2, none⟩ = some (.int .i64 0) := N1.out.at_ 2 (by decide)
  go_wp2_with fail
  clear f2 c2
  obtain ⟨W4, hW4⟩ : ∃ W4, W4 = w3.setCell ⟨w.heap.size + 1, 2, none⟩ (.int .i64 fv) := ⟨_, rfl⟩
  rw [← hW4] at N2 ⊢
  replace N1 := Lib.hid N2
  clear N2 hW4
  have g2 : W4.cell? ⟨b, o + 2, none⟩ = some (.string (bs x2)) := (N1.out.bel.cell (p := ⟨b, o + 2, none⟩) hb).trans K2.out
  have g3 : W4.cell? ⟨w.heap.size + 1, 2, none⟩ = some (.int .i64 fv) := N1.out.at_ 2 (by decide)
  refine region_planQ (S := fun w2 => w2.cell? ⟨b, o + 2, none⟩ = some (.string (bs x2)) ∧ w2.cell? ⟨w.heap.size + 1, 2, none⟩ = some (.int .i64 fv)) [(0, true), (1, true), (2, true), (3, true), (4, true), (5, false), (6, true), (7, false)] (by as_aux_lemma => kernel_rfl) (by as_aux_lemma => kernel_rfl) (by as_aux_lemma => kernel_rfl) (by as_aux_lemma => kernel_rfl) ⟨by rw [World.cell?_drew]; exact g2, by rw [World.cell?_drew]; exact g3⟩ planQ_shut ?_
  refine plan_yes (v := ?v0) (by simp only [List.getElem?_toArray, List.getElem?_cons_zero, List.getElem?_cons_succ]; exact rfl) (Or.inl ⟨by as_aux_lemma => rfl, ?hy0⟩) ?rest0
  case hy0 => (intro w2 hSw; (try dsimp only at hSw); obtain ⟨s0, s1⟩ := hSw; go_simp; try with_reducible rfl)
  try simp only [Act.put, List.setIfInBounds_toArray, List.set_cons_zero, List.set_cons_succ]
  refine plan_yes (v := ?v1) (by simp only [List.getElem?_toArray, List.getElem?_cons_zero, List.getElem?_cons_succ]; exact rfl) (Or.inl ⟨by as_aux_lemma => rfl, ?hy1⟩) ?rest1
  case hy1 => (intro w2 hSw; (try dsimp only at hSw); obtain ⟨s0, s1⟩ := hSw; go_simp; try with_reducible rfl)
  try simp only [Act.put, List.setIfInBounds_toArray, List.set_cons_zero, List.set_cons_succ]
  refine plan_yes (v := ?v2) (by simp only [List.getElem?_toArray, List.getElem?_cons_zero, List.getElem?_cons_succ]; exact rfl) (Or.inl ⟨by as_aux_lemma => rfl, ?hy2⟩) ?rest2
  case hy2 => (intro w2 hSw; (try dsimp only at hSw); obtain ⟨s0, s1⟩ := hSw; go_simp; try with_reducible rfl)
  try simp only [Act.put, List.setIfInBounds_toArray, List.set_cons_zero, List.set_cons_succ]
  refine plan_yes (v := ?v3) (by simp only [List.getElem?_toArray, List.getElem?_cons_zero, List.getElem?_cons_succ]; exact rfl) (Or.inl ⟨by as_aux_lemma => rfl, ?hy3⟩) ?rest3
  case hy3 => (intro w2 hSw; (try dsimp only at hSw); obtain ⟨s0, s1⟩ := hSw; go_simp; try with_reducible rfl)
  try simp only [Act.put, List.setIfInBounds_toArray, List.set_cons_zero, List.set_cons_succ]
  refine plan_yes (v := ?v4) (by simp only [List.getElem?_toArray, List.getElem?_cons_zero, List.getElem?_cons_succ]; exact rfl) (Or.inl ⟨by as_aux_lemma => rfl, ?hy4⟩) ?rest4
  case hy4 => (intro w2 hSw; (try dsimp only at hSw); obtain ⟨s0, s1⟩ := hSw; go_simp; try with_reducible rfl)
  try simp only [Act.put, List.setIfInBounds_toArray, List.set_cons_zero, List.set_cons_succ]
  refine plan_calls (by simp only [List.getElem?_toArray, List.getElem?_cons_zero, List.getElem?_cons_succ]; exact rfl) (by as_aux_lemma => rfl) (fun K hK => ?_)
  go_simp
  refine (HE.out _).mono ?_
  rintro e w5 ⟨rfl, hb5⟩
  replace N1 := Lib.hid (N1.out.drew.call hb5)
  clear hb5 g2 g3
  have g2 : w5.cell? ⟨b, o + 2, none⟩ = some (.string (bs x2)) := (N1.out.bel.cell (p := ⟨b, o + 2, none⟩) hb).trans K2.out
  have g3 : w5.cell? ⟨w.heap.size + 1, 2, none⟩ = some (.int .i64 fv) := N1.out.at_ 2 (by decide)
  refine hK.out _ _ ⟨g2, g3⟩ ?_
  clear hK K
  try simp only [Act.put, List.setIfInBounds_toArray, List.set_cons_zero, List.set_cons_succ]
  refine plan_yes (v := ?v6) (by simp only [List.getElem?_toArray, List.getElem?_cons_zero, List.getElem?_cons_succ]; exact rfl) (Or.inl ⟨by as_aux_lemma => rfl, ?hy6⟩) ?rest6
  case hy6 => (intro w2 hSw; (try dsimp only at hSw); obtain ⟨s0, s1⟩ := hSw; go_simp; try with_reducible rfl)
  try simp only [Act.put, List.setIfInBounds_toArray, List.set_cons_zero, List.set_cons_succ]
  have f3 := N1.out.fz 3
  have c3 : w5.cell? ⟨w.heap.size + 1, 3, none⟩ = some (.int .i64 0) := N1.out.at_ 3 (by decide)
  have N2 := N1.out.set 3 (.int .i64 tv) ⟨2, 0, fv, tv, 0, 0, 0, 0, 0, 0, 0, false, []⟩ rfl
  refine plan_calls (by simp only [List.getElem?_toArray, List.getElem?_cons_zero, List.getElem?_cons_succ]; exact rfl) (by as_aux_lemma => rfl) (fun K hK => ?_)
  go_simp
  refine hK.out _ _ ⟨(N2.bel.cell (p := ⟨b, o + 2, none⟩) hb).trans K2.out, N2.at_ 2 (by decide)⟩ ?_
  clear hK K f3 c3 g2 g3
  try simp only [Act.put, List.setIfInBounds_toArray, List.set_cons_zero, List.set_cons_succ]
  refine plan_done ?_
  obtain ⟨W6, hW6⟩ : ∃ W6, W6 = w5.setCell ⟨w.heap.size + 1, 3, none⟩ (.int .i64 tv) := ⟨_, rfl⟩
  rw [← hW6] at N2 ⊢
  replace N1 := Lib.hid N2
  clear N2 hW6
  have g3 : W6.cell? ⟨b, o + 3, none⟩ = some (.string (bs x3)) := (N1.out.bel.cell (p := ⟨b, o + 3, none⟩) hb).trans K3.out
  go_wp2_with fail
  refine (HMo.out _ (kx_keep hK N1.out.bel)).mono ?_
  rintro e w7 ⟨rfl, hb7⟩
  replace N1 := Lib.hid (N1.out.call hb7)
  clear hb7 g3
  have N2 := Lib.hid (N1.out.set 4 (.int .i64 mv) ⟨2, 0, fv, tv, mv, 0, 0, 0, 0, 0, 0, false, []⟩ rfl)
  have f1 := N1.out.fz 4
  have c1 : w7.cell? ⟨w.heap.size + 1, 4, none⟩ = some (.int .i64 0) := N1.out.at_ 4 (by decide)
  have g4 : (w7.setCell ⟨w.heap.size + 1, 4, none⟩ (.int .i64 mv)).cell? ⟨b, o + 4, none⟩ = some (.string (bs x4)) := (N2.out.bel.cell (p := ⟨b, o + 4, none⟩) hb).trans K4.out
  go_wp2_with fail
  refine (HD.out _ (tw_keep hTw N2.out.bel)).mono ?_
  rintro e w8 ⟨rfl, hb1⟩
  replace N1 := Lib.hid (N2.out.call hb1)
  clear hb1 N2 f1 c1 g4
  go_wp2_with fail
  refine (HD2.out _).mono ?_
  rintro e w9 ⟨rfl, hb1⟩
  replace N1 := Lib.hid (N1.out.call hb1)
  clear hb1
  have N2 := Lib.hid (N1.out.set3 5 (.int .i64 d0) (.int .i64 d1) (.int .i64 d2) ⟨2, 0, fv, tv, mv, d0, d1, d2, 0, 0, 0, false, []⟩ rfl)
  have f5 := N1.out.fz 5
  have f6 := N1.out.fz 6
  have f7 := N1.out.fz 7
  have c5 : w9.cell? ⟨w.heap.size + 1, 5, none⟩ = some (.int .i64 0) := N1.out.at_ 5 (by decide)
  have c6 : w9.cell? ⟨w.heap.size + 1, 6, none⟩ = some (.int .i64 0) := N1.out.at_ 6 (by decide)
  have c7 : w9.cell? ⟨w.heap.size + 1, 7, none⟩ = some (.int .i64 0) := N1.out.at_ 7 (by decide)
  have g5 : (((w9.setCell ⟨w.heap.size + 1, 5, none⟩ (.int .i64 d0)).setCell ⟨w.heap.size + 1, 6, none⟩ (.int .i64 d1)).setCell ⟨w.heap.size + 1, 7, none⟩ (.int .i64 d2)).cell? ⟨b, o + 5, none⟩ = some (.string (bs x5)) := (N2.out.bel.cell (p := ⟨b, o + 5, none⟩) hb).trans K5.out
  go_wp2_with fail
  refine (HT.out _).mono ?_
  rintro e w10 ⟨rfl, hb1⟩
  replace N1 := Lib.hid (N2.out.call hb1)
  clear hb1 N2 f5 f6 f7 c5 c6 c7 g5
  go_wp2_with fail
  refine (HT2.out _).mono ?_
  rintro e w11 ⟨rfl, hb1⟩
  replace N1 := Lib.hid (N1.out.call hb1)
  clear hb1
  have N2 := Lib.hid (N1.out.set 8 (.int .i64 tiv) ⟨2, 0, fv, tv, mv, d0, d1, d2, tiv, 0, 0, false, []⟩ rfl)
  have f1 := N1.out.fz 8
  have c1 : w11.cell? ⟨w.heap.size + 1, 8, none⟩ = some (.int .i64 0) := N1.out.at_ 8 (by decide)
  have g6 : (w11.setCell ⟨w.heap.size + 1, 8, none⟩ (.int .i64 tiv)).cell? ⟨b, o + 6, none⟩ = some (.string (bs x6)) := (N2.out.bel.cell (p := ⟨b, o + 6, none⟩) hb).trans K6.out
  go_wp2_with fail
  refine (HO.out _).mono ?_
  rintro e w12 ⟨rfl, hb1⟩
  replace N1 := Lib.hid (N2.out.call hb1)
  clear hb1 N2 f1 c1 g6
  go_wp2_with fail
  refine (HO2.out _).mono ?_
  rintro e w13 ⟨rfl, hb1⟩
  replace N1 := Lib.hid (N1.out.call hb1)
  clear hb1
  have N2 := Lib.hid (N1.out.set 9 (.int .i64 rv) ⟨2, 0, fv, tv, mv, d0, d1, d2, tiv, rv, 0, false, []⟩ rfl)
  have f1 := N1.out.fz 9
  have c1 : w13.cell? ⟨w.heap.size + 1, 9, none⟩ = some (.int .i64 0) := N1.out.at_ 9 (by decide)
  go_wp2_with fail
  refine (HR.out _ N2.out.bel).mono ?_
  rintro e w14 ⟨rfl, hb1⟩
  replace N1 := Lib.hid (N2.out.call hb1)
  clear hb1 N2 f1 c1
  have N2 := Lib.hid (N1.out.set3 10 (.int .i64 t0) (.bool t1) (.string (bs t2)) ⟨2, 0, fv, tv, mv, d0, d1, d2, tiv, rv, t0, t1, t2⟩ rfl)
  have f10 := N1.out.fz 10
  have f11 := N1.out.fz 11
  have f12 := N1.out.fz 12
  have c10 : w14.cell? ⟨w.heap.size + 1, 10, none⟩ = some (.int .i64 0) := N1.out.at_ 10 (by decide)
  have c11 : w14.cell? ⟨w.heap.size + 1, 11, none⟩ = some (.bool false) := N1.out.at_ 11 (by decide)
  have c12 : w14.cell? ⟨w.heap.size + 1, 12, none⟩ = some (.string (bs [])) := N1.out.at_ 12 (by decide)
  obtain ⟨r0, r1, r2, r3, r4, r5, r6, r7, r8, r9, r10, r11, r12⟩ := li_cells N2.out.row
  simp only at r0 r1 r2 r3 r4 r5 r6 r7 r8 r9 r10 r11 r12
  clear N1
  go_wp2
  exact ⟨rfl, rfl, N2.out.bel⟩
set_option maxHeartbeats 3200000 in
set_option maxRecDepth 100000 in
theorem pYearly_ok (E : Int) (b o c : Nat) (w : World) (hb : b < w.heap.size) (x1 x2 x3 x4 x5 x6 : List UInt8) (hTw : Hid (TW w)) (hK : Hid (KX w)) (fv tv mv d0 d1 d2 tiv rv t0 : Int) (t1 : Bool) (t2 : List UInt8) (hc : 10 ≤ c) (K1 : Hid (w.cell? ⟨b, o + 1, none⟩ = some (.string (bs x1)))) (K2 : Hid (w.cell? ⟨b, o + 2, none⟩ = some (.string (bs x2)))) (K3 : Hid (w.cell? ⟨b, o + 3, none⟩ = some (.string (bs x3)))) (K4 : Hid (w.cell? ⟨b, o + 4, none⟩ = some (.string (bs x4)))) (K5 : Hid (w.cell? ⟨b, o + 5, none⟩ = some (.string (bs x5)))) (K6 : Hid (w.cell? ⟨b, o + 6, none⟩ = some (.string (bs x6)))) (HY : Hid (∀ w, Calls Tryz.prog 95 #[.string (bs x1)] w fun e w' => e = .returned (.tuple #[.int .i64 fv, .int .i64 0]) ∧ Below w.heap.size w w')) (HY2 : Hid (∀ w, Calls Tryz.prog 62 #[.int .i64 fv, .int .i64 0] w fun e w' => e = .returned (.int .i64 fv) ∧ Below w.heap.size w w')) (HE : Hid (∀ w, Calls Tryz.prog 96 #[.string (bs x2), .int .i64 fv] w fun e w' => e = .returned (.int .i64 tv) ∧ Below w.heap.size w w')) (HMo : Hid (∀ w, KX w → Calls Tryz.prog 97 #[.string (bs x3)] w fun e w' => e = .returned (.int .i64 mv) ∧ Below w.heap.size w w')) (HD : Hid (∀ w, TW w → Calls Tryz.prog 69 #[.string (bs x4)] w fun e w' => e = .returned (.tuple #[.agg #[.int .i64 d0, .int .i64 d1, .int .i64 d2], .int .i64 0]) ∧ Below w.heap.size w w')) (HD2 : Hid (∀ w, Calls Tryz.prog 98 #[.agg #[.int .i64 d0, .int .i64 d1, .int .i64 d2], .int .i64 0] w fun e w' => e = .returned (.agg #[.int .i64 d0, .int .i64 d1, .int .i64 d2]) ∧ Below w.heap.size w w')) (HT : Hid (∀ w, Calls Tryz.prog 99 #[.string (bs x5)] w fun e w' => e = .returned (.tuple #[.int .i64 tiv, .int .i64 0]) ∧ Below w.heap.size w w')) (HT2 : Hid (∀ w, Calls Tryz.prog 62 #[.int .i64 tiv, .int .i64 0] w fun e w' => e = .returned (.int .i64 tiv) ∧ Below w.heap.size w w')) (HO : Hid (∀ w, Calls Tryz.prog 63 #[.string (bs x6)] w fun e w' => e = .returned (.tuple #[.int .i64 rv, .int .i64 0]) ∧ Below w.heap.size w w')) (HO2 : Hid (∀ w, Calls Tryz.prog 62 #[.int .i64 rv, .int .i64 0] w fun e w' => e = .returned (.int .i64 rv) ∧ Below w.heap.size w w')) (HR : Hid (∀ W, Below w.heap.size w W → Calls Tryz.prog 94 #[.slice (some ⟨b, o + 7, none⟩) 3 (c - 7)] W fun e w' => e = .returned (.agg #[.int .i64 t0, .bool t1, .string (bs t2)]) ∧ Below W.heap.size W w')) (hf : decide (tv < fv) = false) :
    Calls Tryz.prog 79 #[.slice (some ⟨b, o, none⟩) 10 c] w fun e w' => e = .returned (linA ⟨2, 0, fv, tv, mv, d0, d1, d2, tiv, rv, t0, t1, t2⟩) ∧ Below w.heap.size w w' := by
  go_enter Tryz.func79, Tryz.ntmps79
  refine wp_shut ?_
  go_wp2_with (first | (refine li_store (by rfl) _ _ (by rfl) ⟨2, 0, 0, 0, 0, 0, 0, 0, 0, 0, 0, false, []⟩ (by kernel_rfl) (by rfl) (by unfold linC; rw [bs_empty]; rfl) ?_; intro W1 N1; refine Hid.out ?_) | fail)
  refine Lib.hid ?_
  have g1 : W1.cell? ⟨b, o + 1, none⟩ = some (.string (bs x1)) := (N1.bel.cell (p := ⟨b, o + 1, none⟩) hb).trans K1.out
  replace N1 := Lib.hid N1
  go_wp2_with fail
  refine (HY.out _).mono ?_
  rintro e w2 ⟨rfl, hb2⟩
  replace N1 := Lib.hid (N1.out.call hb2)
  clear hb2 g1
  go_wp2_with fail
  refine (HY2.out _).mono ?_
  rintro e w3 ⟨rfl, hb3⟩
  replace N1 := Lib.hid (N1.out.call hb3)
  clear hb3
  have N2 := N1.out.set 2 (.int .i64 fv) ⟨2, 0, fv, 0, 0, 0, 0, 0, 0, 0, 0, false, []⟩ rfl
  have f2 := N1.out.fz 2
  have c2 : w3.cell? ⟨w.heap.size + 1, 2, none⟩ = some (.int .i64 0) := N1.out.at_ 2 (by decide)
  go_wp2_with fail
  clear f2 c2
  obtain ⟨W4, hW4⟩ : ∃ W4, W4 = w3.setCell ⟨w.heap.size + 1, 2, none⟩ (.int .i64 fv) := ⟨_, rfl⟩
  rw [← hW4] at N2 ⊢
  replace N1 := Lib.hid N2
  clear N2 hW4
  have g2 : W4.cell? ⟨b, o + 2, none⟩ = some (.string (bs x2)) := (N1.out.bel.cell (p := ⟨b, o + 2, none⟩) hb).trans K2.out
  have g3 : W4.cell? ⟨w.heap.size + 1, 2, none⟩ = some (.int .i64 fv) := N1.out.at_ 2 (by decide)
  refine region_planQ (S := fun w2 => w2.cell? ⟨b, o + 2, none⟩ = some (.string (bs x2)) ∧ w2.cell? ⟨w.heap.size + 1, 2, none⟩ = some (.int .i64 fv)) [(0, true), (1, true), (2, true), (3, true), (4, true), (5, false), (6, true), (7, false)] (by as_aux_lemma => kernel_rfl) (by as_aux_lemma => kernel_rfl) (by as_aux_lemma => kernel_rfl) (by as_aux_lemma => kernel_rfl) ⟨by rw [World.cell?_drew]; exact g2, by rw [World.cell?_drew]; exact g3⟩ planQ_shut ?_
  refine plan_yes (v := ?v0) (by simp only [List.getElem?_toArray, List.getElem?_cons_zero, List.getElem?_cons_succ]; exact rfl) (Or.inl ⟨by as_aux_lemma => rfl, ?hy0⟩) ?rest0
  case hy0 => (intro w2 hSw; (try dsimp only at hSw); obtain ⟨s0, s1⟩ := hSw; go_simp; try with_reducible rfl)
  try simp only [Act.put, List.setIfInBounds_toArray, List.set_cons_zero, List.set_cons_succ]
  refine plan_yes (v := ?v1) (by simp only [List.getElem?_toArray, List.getElem?_cons_zero, List.getElem?_cons_succ]; exact rfl) (Or.inl ⟨by as_aux_lemma => rfl, ?hy1⟩) ?rest1
  case hy1 => (intro w2 hSw; (try dsimp only at hSw); obtain ⟨s0, s1⟩ := hSw; go_simp; try with_reducible rfl)
  try simp only [Act.put, List.setIfInBounds_toArray, List.set_cons_zero, List.set_cons_succ]
  refine plan_yes (v := ?v2) (by simp only [List.getElem?_toArray, List.getElem?_cons_zero, List.getElem?_cons_succ]; exact rfl) (Or.inl ⟨by as_aux_lemma => rfl, ?hy2⟩) ?rest2
  case hy2 => (intro w2 hSw; (try dsimp only at hSw); obtain ⟨s0, s1⟩ := hSw; go_simp; try with_reducible rfl)
  try simp only [Act.put, List.setIfInBounds_toArray, List.set_cons_zero, List.set_cons_succ]
  refine plan_yes (v := ?v3) (by simp only [List.getElem?_toArray, List.getElem?_cons_zero, List.getElem?_cons_succ]; exact rfl) (Or.inl ⟨by as_aux_lemma => rfl, ?hy3⟩) ?rest3
  case hy3 => (intro w2 hSw; (try dsimp only at hSw); obtain ⟨s0, s1⟩ := hSw; go_simp; try with_reducible rfl)
  try simp only [Act.put, List.setIfInBounds_toArray, List.set_cons_zero, List.set_cons_succ]
  refine plan_yes (v := ?v4) (by simp only [List.getElem?_toArray, List.getElem?_cons_zero, List.getElem?_cons_succ]; exact rfl) (Or.inl ⟨by as_aux_lemma => rfl, ?hy4⟩) ?rest4
  case hy4 => (intro w2 hSw; (try dsimp only at hSw); obtain ⟨s0, s1⟩ := hSw; go_simp; try with_reducible rfl)
  try simp only [Act.put, List.setIfInBounds_toArray, List.set_cons_zero, List.set_cons_succ]
  refine plan_calls (by simp only [List.getElem?_toArray, List.getElem?_cons_zero, List.getElem?_cons_succ]; exact rfl) (by as_aux_lemma => rfl) (fun K hK => ?_)
  go_simp
  refine (HE.out _).mono ?_
  rintro e w5 ⟨rfl, hb5⟩
  replace N1 := Lib.hid (N1.out.drew.call hb5)
  clear hb5 g2 g3
  have g2 : w5.cell? ⟨b, o + 2, none⟩ = some (.string (bs x2)) := (N1.out.bel.cell (p := ⟨b, o + 2, none⟩) hb).trans K2.out
  have g3 : w5.cell? ⟨w.heap.size + 1, 2, none⟩ = some (.int .i64 fv) := N1.out.at_ 2 (by decide)
  refine hK.out _ _ ⟨g2, g3⟩ ?_
  clear hK K
  try simp only [Act.put, List.setIfInBounds_toArray, List.set_cons_zero, List.set_cons_succ]
  refine plan_yes (v := ?v6) (by simp only [List.getElem?_toArray, List.getElem?_cons_zero, List.getElem?_cons_succ]; exact rfl) (Or.inl ⟨by as_aux_lemma => rfl, ?hy6⟩) ?rest6
  case hy6 => (intro w2 hSw; (try dsimp only at hSw); obtain ⟨s0, s1⟩ := hSw; go_simp; try with_reducible rfl)
  try simp only [Act.put, List.setIfInBounds_toArray, List.set_cons_zero, List.set_cons_succ]
  have f3 := N1.out.fz 3
  have c3 : w5.cell? ⟨w.heap.size + 1, 3, none⟩ = some (.int .i64 0) := N1.out.at_ 3 (by decide)
  have N2 := N1.out.set 3 (.int .i64 tv) ⟨2, 0, fv, tv, 0, 0, 0, 0, 0, 0, 0, false, []⟩ rfl
  refine plan_calls (by simp only [List.getElem?_toArray, List.getElem?_cons_zero, List.getElem?_cons_succ]; exact rfl) (by as_aux_lemma => rfl) (fun K hK => ?_)
  go_simp
  refine hK.out _ _ ⟨(N2.bel.cell (p := ⟨b, o + 2, none⟩) hb).trans K2.out, N2.at_ 2 (by decide)⟩ ?_
  clear hK K f3 c3 g2 g3
  try simp only [Act.put, List.setIfInBounds_toArray, List.set_cons_zero, List.set_cons_succ]
  refine plan_done ?_
  obtain ⟨W6, hW6⟩ : ∃ W6, W6 = w5.setCell ⟨w.heap.size + 1, 3, none⟩ (.int .i64 tv) := ⟨_, rfl⟩
  rw [← hW6] at N2 ⊢
  replace N1 := Lib.hid N2
  clear N2 hW6
  have g3 : W6.cell? ⟨b, o + 3, none⟩ = some (.string (bs x3)) := (N1.out.bel.cell (p := ⟨b, o + 3, none⟩) hb).trans K3.out
  go_wp2_with fail
  refine (HMo.out _ (kx_keep hK N1.out.bel)).mono ?_
  rintro e w7 ⟨rfl, hb7⟩
  replace N1 := Lib.hid (N1.out.call hb7)
  clear hb7 g3
  have N2 := Lib.hid (N1.out.set 4 (.int .i64 mv) ⟨2, 0, fv, tv, mv, 0, 0, 0, 0, 0, 0, false, []⟩ rfl)
  have f1 := N1.out.fz 4
  have c1 : w7.cell? ⟨w.heap.size + 1, 4, none⟩ = some (.int .i64 0) := N1.out.at_ 4 (by decide)
  have g4 : (w7.setCell ⟨w.heap.size + 1, 4, none⟩ (.int .i64 mv)).cell? ⟨b, o + 4, none⟩ = some (.string (bs x4)) := (N2.out.bel.cell (p := ⟨b, o + 4, none⟩) hb).trans K4.out
  go_wp2_with fail
  refine (HD.out _ (tw_keep hTw N2.out.bel)).mono ?_
  rintro e w8 ⟨rfl, hb1⟩
  replace N1 := Lib.hid (N2.out.call hb1)
  clear hb1 N2 f1 c1 g4
  go_wp2_with fail
  refine (HD2.out _).mono ?_
  rintro e w9 ⟨rfl, hb1⟩
  replace N1 := Lib.hid (N1.out.call hb1)
  clear hb1
  have N2 := Lib.hid (N1.out.set3 5 (.int .i64 d0) (.int .i64 d1) (.int .i64 d2) ⟨2, 0, fv, tv, mv, d0, d1, d2, 0, 0, 0, false, []⟩ rfl)
  have f5 := N1.out.fz 5
  have f6 := N1.out.fz 6
  have f7 := N1.out.fz 7
  have c5 : w9.cell? ⟨w.heap.size + 1, 5, none⟩ = some (.int .i64 0) := N1.out.at_ 5 (by decide)
  have c6 : w9.cell? ⟨w.heap.size + 1, 6, none⟩ = some (.int .i64 0) := N1.out.at_ 6 (by decide)
  have c7 : w9.cell? ⟨w.heap.size + 1, 7, none⟩ = some (.int .i64 0) := N1.out.at_ 7 (by decide)
  have g5 : (((w9.setCell ⟨w.heap.size + 1, 5, none⟩ (.int .i64 d0)).setCell ⟨w.heap.size + 1, 6, none⟩ (.int .i64 d1)).setCell ⟨w.heap.size + 1, 7, none⟩ (.int .i64 d2)).cell? ⟨b, o + 5, none⟩ = some (.string (bs x5)) := (N2.out.bel.cell (p := ⟨b, o + 5, none⟩) hb).trans K5.out
  go_wp2_with fail
  refine (HT.out _).mono ?_
  rintro e w10 ⟨rfl, hb1⟩
  replace N1 := Lib.hid (N2.out.call hb1)
  clear hb1 N2 f5 f6 f7 c5 c6 c7 g5
  go_wp2_with fail
  refine (HT2.out _).mono ?_
  rintro e w11 ⟨rfl, hb1⟩
  replace N1 := Lib.hid (N1.out.call hb1)
  clear hb1
  have N2 := Lib.hid (N1.out.set 8 (.int .i64 tiv) ⟨2, 0, fv, tv, mv, d0, d1, d2, tiv, 0, 0, false, []⟩ rfl)
  have f1 := N1.out.fz 8
  have c1 : w11.cell? ⟨w.heap.size + 1, 8, none⟩ = some (.int .i64 0) := N1.out.at_ 8 (by decide)
  have g6 : (w11.setCell ⟨w.heap.size + 1, 8, none⟩ (.int .i64 tiv)).cell? ⟨b, o + 6, none⟩ = some (.string (bs x6)) := (N2.out.bel.cell (p := ⟨b, o + 6, none⟩) hb).trans K6.out
  go_wp2_with fail
  refine (HO.out _).mono ?_
  rintro e w12 ⟨rfl, hb1⟩
  replace N1 := Lib.hid (N2.out.call hb1)
  clear hb1 N2 f1 c1 g6
  go_wp2_with fail
  refine (HO2.out _).mono ?_
  rintro e w13 ⟨rfl, hb1⟩
  replace N1 := Lib.hid (N1.out.call hb1)
  clear hb1
  have N2 := Lib.hid (N1.out.set 9 (.int .i64 rv) ⟨2, 0, fv, tv, mv, d0, d1, d2, tiv, rv, 0, false, []⟩ rfl)
  have f1 := N1.out.fz 9
  have c1 : w13.cell? ⟨w.heap.size + 1, 9, none⟩ = some (.int .i64 0) := N1.out.at_ 9 (by decide)
  go_wp2_with fail
  refine (HR.out _ N2.out.bel).mono ?_
  rintro e w14 ⟨rfl, hb1⟩
  replace N1 := Lib.hid (N2.out.call hb1)
  clear hb1 N2 f1 c1
  have N2 := Lib.hid (N1.out.set3 10 (.int .i64 t0) (.bool t1) (.string (bs t2)) ⟨2, 0, fv, tv, mv, d0, d1, d2, tiv, rv, t0, t1, t2⟩ rfl)
  have f10 := N1.out.fz 10
  have f11 := N1.out.fz 11
  have f12 := N1.out.fz 12
  have c10 : w14.cell? ⟨w.heap.size + 1, 10, none⟩ = some (.int .i64 0) := N1.out.at_ 10 (by decide)
  have c11 : w14.cell? ⟨w.heap.size + 1, 11, none⟩ = some (.bool false) := N1.out.at_ 11 (by decide)
  have c12 : w14.cell? ⟨w.heap.size + 1, 12, none⟩ = some (.string (bs [])) := N1.out.at_ 12 (by decide)
  obtain ⟨r0, r1, r2, r3, r4, r5, r6, r7, r8, r9, r10, r11, r12⟩ := li_cells N2.out.row
  simp only at r0 r1 r2 r3 r4 r5 r6 r7 r8 r9 r10 r11 r12
  clear N1
  go_wp2_with (first | (refine li_shut (by rfl) _ _ (by rfl) (by kernel_rfl) (by rfl) (by rfl) N2.out ?_; intro W5 z5 B5; refine Hid.out ?_) | fail)
  refine Lib.hid ?_
  obtain ⟨q0, q1, q2, q3, q4, q5, q6, q7, q8, q9, q10, q11, q12⟩ := li_cells z5
  simp only at q0 q1 q2 q3 q4 q5 q6 q7 q8 q9 q10 q11 q12
  replace B5 := Lib.hid B5
  clear r0 r1 r2 r3 r4 r5 r6 r7 r8 r9 r10 r11 r12 f10 f11 f12 c10 c11 c12 z5
  go_wp2
  refine shut_ret (v := linA ⟨2, 0, fv, tv, mv, d0, d1, d2, tiv, rv, t0, t1, t2⟩) (by simp [linA, results, Tryz.results79, go_sem, q0, q1, q2, q3, q4, q5, q6, q7, q8, q9, q10, q11, q12]) rfl ⟨rfl, B5.out⟩
end Go.Proofs.YteinjdmkmfeniaaGreatDoor
