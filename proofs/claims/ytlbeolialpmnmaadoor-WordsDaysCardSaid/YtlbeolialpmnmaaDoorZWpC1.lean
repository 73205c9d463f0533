/- Several texts in one: WpC. -/
import Derived.Test.YtlbeolialpmnmaaDoorShelf
import Derived.Test.YtlbeolialpmnmaaDoorZRowS1
import Derived.Test.YtlbeolialpmnmaaDoorZWpB1
import Derived.Test.YtlbeolialpmnmaaDoorZWpD1
import Derived.Test.YtlbeolialpmnmaaDoorZTab1
namespace Go.Proofs.YtlbeolialpmnmaaDoor
set_option linter.unusedVariables false
set_option linter.unusedSimpArgs false
open Go.ChangeShapes Go.WideShapes Go.ChangeAt Go.RowKit
def dnT : List (List UInt8) := [[109, 111, 110], [116, 117, 101], [119, 101, 100], [116, 104, 117], [102, 114, 105], [115, 97, 116], [115, 117, 110]]
structure DN (w : World) : Prop where
  cell : ∀ i : Nat, i < 7 → w.cell? ⟨0, i, none⟩ = some (.string (bs (dnT.getD i [])))
  size : 0 < w.heap.size
theorem dn_keep {w w' : World} (h : Hid (DN w)) (hb : Below w.heap.size w w') : DN w' :=
  ⟨fun i hi => (hb.cell (p := ⟨0, i, none⟩) h.out.size).trans (h.out.cell i hi), Nat.lt_of_lt_of_le h.out.size hb.size⟩
structure ML (w : World) : Prop where
  cell : ∃ m : Int, w.cell? ⟨1, 0, none⟩ = some (.int .i64 m)
  size : 1 < w.heap.size
theorem ml_keep {w w' : World} (h : Hid (ML w)) (hb : Below w.heap.size w w') : ML w' := by
  obtain ⟨m, hm⟩ := h.out.cell
  exact ⟨⟨m, (hb.cell (p := ⟨1, 0, none⟩) h.out.size).trans hm⟩, Nat.lt_of_lt_of_le h.out.size hb.size⟩
structure TW (w : World) : Prop where
  tb : TB w
  dn : DN w
  ml : ML w
theorem tw_keep {w w' : World} (h : Hid (TW w)) (hb : Below w.heap.size w w') : TW w' := ⟨tb_keep (Lib.hid h.out.tb) hb, dn_keep (Lib.hid h.out.dn) hb, ml_keep (Lib.hid h.out.ml) hb⟩
def wdE (t : List UInt8) : Int := if wkdI t = 0 then 2 else 0
theorem wd_at {t : List UInt8} {k : Nat} (hk : k < 7) (h : t = dnT.getD k []) : wkdI t = (k : Int) + 1 ∧ wdE t = 0 := by
  have e : wkdI t = (k : Int) + 1 := by
    rw [h]
    match k, hk with
    | 0, _ => exact wkd_1
    | 1, _ => exact wkd_2
    | 2, _ => exact wkd_3
    | 3, _ => exact wkd_4
    | 4, _ => exact wkd_5
    | 5, _ => exact wkd_6
    | 6, _ => exact wkd_7
  exact ⟨e, if_neg (by rw [e]; omega)⟩
theorem wd_no {t : List UInt8} (h : ∀ k, k < 7 → t ≠ dnT.getD k []) : wkdI t = 0 ∧ wdE t = 2 := by
  have e := wkd_none (h 0 (by decide)) (h 1 (by decide)) (h 2 (by decide)) (h 3 (by decide)) (h 4 (by decide)) (h 5 (by decide)) (h 6 (by decide))
  exact ⟨e, if_pos e⟩
def dnV : Value := .agg #[.string (bs [109, 111, 110]), .string (bs [116, 117, 101]), .string (bs [119, 101, 100]), .string (bs [116, 104, 117]), .string (bs [102, 114, 105]), .string (bs [115, 97, 116]), .string (bs [115, 117, 110])]
set_option maxHeartbeats 3200000 in
set_option maxRecDepth 100000 in
theorem pWeekday14_p (t : List UInt8) (w : World) (hM : DN w) : Calls Tryd.prog 40 #[.string (bs t)] w fun e w' => e = .returned (.tuple #[.int .i64 (wkdI t), .int .i64 (wdE t)]) ∧ w = w' := by
  have c0 : w.cell? ⟨0, 0, none⟩ = some (.string (bs [109, 111, 110])) := hM.cell 0 (by decide)
  have c1 : w.cell? ⟨0, 1, none⟩ = some (.string (bs [116, 117, 101])) := hM.cell 1 (by decide)
  have c2 : w.cell? ⟨0, 2, none⟩ = some (.string (bs [119, 101, 100])) := hM.cell 2 (by decide)
  have c3 : w.cell? ⟨0, 3, none⟩ = some (.string (bs [116, 104, 117])) := hM.cell 3 (by decide)
  have c4 : w.cell? ⟨0, 4, none⟩ = some (.string (bs [102, 114, 105])) := hM.cell 4 (by decide)
  have c5 : w.cell? ⟨0, 5, none⟩ = some (.string (bs [115, 97, 116])) := hM.cell 5 (by decide)
  have c6 : w.cell? ⟨0, 6, none⟩ = some (.string (bs [115, 117, 110])) := hM.cell 6 (by decide)
  have zg := hM.size
  clear hM
  have hi : ∀ (k : Nat), k < 7 → ∀ w, (Instr.index 78 dnV (.int .i64 (k : Int))).run Tryd.prog w = .ok (.string (bs (dnT.getD k []))) w := by
    intro k hk
    match k, hk with
    | 0, _ => exact fun _ => by kernel_rfl
    | 1, _ => exact fun _ => by kernel_rfl
    | 2, _ => exact fun _ => by kernel_rfl
    | 3, _ => exact fun _ => by kernel_rfl
    | 4, _ => exact fun _ => by kernel_rfl
    | 5, _ => exact fun _ => by kernel_rfl
    | 6, _ => exact fun _ => by kernel_rfl
  unfold dnV at hi
  have lt := bs_list t
  go_enter Tryd.func40, Tryd.ntmps40
  go_wp2
  go_loop [7] (fun i => ∃ k : Nat, k ≤ 7 ∧ i = .int .i64 (k : Int) ∧ Hid (∀ j, j < k → t ≠ dnT.getD j [])) (fun i => 7 - (intOf i).toNat)
  case atStart => exact ⟨0, by omega, rfl, Lib.hid (fun j hj => by omega)⟩
  case round =>
    obtain ⟨k, hk, rfl, hno⟩ := hrel
    by_cases hlt : k < 7
    · have hik := hi k hlt
      have lk := bs_list (dnT.getD k [])
      by_cases he : t = dnT.getD k []
      · have E := Lib.hid (wd_at hlt he)
        have hq : (t == dnT.getD k []) = true := by rw [beq_iff_eq]; exact he
        clear hi c0 c1 c2 c3 c4 c5 c6
        replace he := Lib.hid he
        generalize dnT.getD k [] = D at *
        go_wp2
        go_ret2
        exact ⟨by rw [E.out.1, E.out.2]; first | rfl | go_num, rfl⟩
      · have hq : (t == dnT.getD k []) = false := by rw [beq_eq_false_iff_ne]; exact he
        have E : Hid (∀ j, j < k + 1 → t ≠ dnT.getD j []) := Lib.hid (fun j hj => by
          by_cases hjk : j = k
          · subst hjk; exact he
          · exact hno.out j (by omega))
        clear hi c0 c1 c2 c3 c4 c5 c6
        replace he := Lib.hid he
        generalize dnT.getD k [] = D at *
        go_wp2
        go_round
        case rel => exact ⟨k + 1, by omega, by go_num, E⟩
        case measure => simp [intOf]; omega
    · obtain rfl : k = 7 := by omega
      have E := Lib.hid (wd_no hno.out)
      clear hi c0 c1 c2 c3 c4 c5 c6
      go_wp2
      go_ret2
      exact ⟨by rw [E.out.1, E.out.2]; try rfl, rfl⟩
end Go.Proofs.YtlbeolialpmnmaaDoor
