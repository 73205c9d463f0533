/- Several texts in one: Kx, KxT, KxU. -/
import Derived.Test.YtafecnlaodgmkaaGreatDoorY2Wp1
import Derived.Lib.LaidTab
import Derived.Lib.AppendIntMem
import Derived.Lib.ItoaNum
namespace Go.Proofs.YtafecnlaodgmkaaGreatDoor
set_option linter.unusedVariables false
open Go.ChangeShapes Go.WideShapes Go.ChangeAt Go.RowKit
def mnT : List (List UInt8) := [[106, 97, 110], [102, 101, 98], [109, 97, 114], [97, 112, 114], [109, 97, 121], [106, 117, 110], [106, 117, 108], [97, 117, 103], [115, 101, 112], [111, 99, 116], [110, 111, 118], [100, 101, 99]]
def StrsAt (w : World) (name : String) (ss : List (List UInt8)) : Prop :=
  ∀ g, Tryz.prog.globalNamed name = some g → (∀ i : Nat, i < ss.length → w.cell? ⟨g, i, none⟩ = some (.string (bs (ss.getD i [])))) ∧ g < w.heap.size
theorem strsAt_keep {w w' : World} {name : String} {ss : List (List UInt8)} (h : StrsAt w name ss) (hb : Below w.heap.size w w') : StrsAt w' name ss := fun g hg =>
  ⟨fun i hi => (hb.cell (p := ⟨g, i, none⟩) (h g hg).2).trans ((h g hg).1 i hi), Nat.lt_of_lt_of_le (h g hg).2 hb.size⟩
def NumsAt (w : World) (name : String) (k : IntKind) (zs : List Int) : Prop := ∀ g, Tryz.prog.globalNamed name = some g → Lib.TabIs Tryz.prog w name k zs
theorem numsAt_keep {w w' : World} {name : String} {k : IntKind} {zs : List Int} (h : NumsAt w name k zs) (hb : Below w.heap.size w w') : NumsAt w' name k zs := fun g hg => Lib.tabBelow_of_tabIs (h g hg) w' hb
structure KX (w : World) : Prop where
  tw : TW w
  mn : StrsAt w "analemma/rules.monthNames" mnT
  dr : StrsAt w "analemma/rules.dayNames" dnT
  p10 : NumsAt w "internal/strconv.uint64pow10" .u64 Lib.pow10Tab
theorem kx_keep {w w' : World} (h : Hid (KX w)) (hb : Below w.heap.size w w') : KX w' :=
  ⟨tw_keep (Lib.hid h.out.tw) hb, strsAt_keep h.out.mn hb, strsAt_keep h.out.dr hb, numsAt_keep h.out.p10 hb⟩
end Go.Proofs.YtafecnlaodgmkaaGreatDoor
namespace Go.Proofs.YtafecnlaodgmkaaGreatDoor
set_option linter.unusedVariables false
open Go.ChangeShapes Go.WideShapes Go.ChangeAt Go.RowKit
def dbT32 : List Int := [0, 1, 28, 2, 29, 14, 24, 3, 30, 22, 20, 15, 25, 17, 4, 8, 31, 27, 13, 23, 21, 19, 16, 7, 26, 12, 18, 6, 11, 5, 10, 9]
def dbT64 : List Int := [0, 1, 56, 2, 57, 49, 28, 3, 61, 58, 42, 50, 38, 29, 17, 4, 62, 47, 59, 36, 45, 43, 51, 22, 53, 39, 33, 30, 24, 18, 12, 5, 63, 55, 48, 27, 60, 41, 37, 16, 46, 35, 44, 21, 52, 32, 23, 11, 54, 26, 40, 15, 34, 20, 31, 10, 25, 14, 19, 9, 13, 8, 7, 6]
def p10L : List Int := [1, 10, 100, 1000, 10000, 100000, 1000000, 10000000, 100000000, 1000000000, 10000000000, 100000000000, 1000000000000, 10000000000000, 100000000000000, 1000000000000000, 10000000000000000, 100000000000000000, 1000000000000000000, 10000000000000000000]
theorem p10L_eq : p10L = Lib.pow10Tab := by decide +kernel
theorem gKP10 : Tryz.prog.globalNamed "internal/strconv.uint64pow10" = some 4 := by kernel_rfl
theorem tKP10 : (Tryz.prog.globals[4]?).map (·.type) = some 186 := by kernel_rfl
theorem cKP10 : Tryz.prog.cellsOf 186 = 20 := by kernel_rfl
theorem cU64 : Tryz.prog.cellsOf 43 = 1 := by kernel_rfl
theorem gKDR : Tryz.prog.globalNamed "analemma/rules.dayNames" = some 1 := by kernel_rfl
theorem tKDR : (Tryz.prog.globals[1]?).map (·.type) = some 168 := by kernel_rfl
theorem strsAt_of {W : World} {name : String} {ss : List (List UInt8)} {g : Nat} (hg : Tryz.prog.globalNamed name = some g) (h0 : 0 < ss.length)
    (T : ∀ (i : Nat) (s : List UInt8), ss[i]? = some s → W.cell? ⟨g, i, none⟩ = some (.string (bs s))) : StrsAt W name ss := by
  intro g2 hg2
  obtain rfl := Option.some.inj (hg.symm.trans hg2)
  have c : ∀ i : Nat, i < ss.length → W.cell? ⟨g, i, none⟩ = some (.string (bs (ss.getD i []))) := fun i hi => T i _ (by
    rw [List.getElem?_eq_getElem hi]; simp [List.getD, hi])
  exact ⟨c, World.block_lt_of_cell? W ⟨g, 0, none⟩ (c 0 h0)⟩
end Go.Proofs.YtafecnlaodgmkaaGreatDoor
namespace Go.Proofs.YtafecnlaodgmkaaGreatDoor
set_option linter.unusedVariables false
open Go.ChangeShapes Go.WideShapes Go.ChangeAt Go.RowKit
def laidKY : List (String × DataW Unit) := [("analemma/civil.monthDays", Lib.tabData .i64 mdT), ("math/bits.deBruijn32tab", Lib.tabData .u8 dbT32), ("math/bits.deBruijn64tab", Lib.tabData .u8 dbT64), ("internal/strconv.uint64pow10", Lib.tabData .u64 p10L),
  ("analemma/words.dayNames", strData dnT), ("analemma/rules.dayNames", strData dnT)]
theorem gSZ0 : Tryz.prog.globalNamed "analemma/clock.sizes" = none := by kernel_rfl
theorem gMN0 : Tryz.prog.globalNamed "analemma/rules.monthNames" = none := by kernel_rfl
set_option maxRecDepth 100000 in
theorem ky_of_laid {W : World} (h : laidMetH Tryz.prog laidKY W) (hs : W.ShapedOpen Tryz.prog) : KX W := by
  rw [MakeChecks.laidMetH_plain _ _ _ (by kernel_rfl)] at h
  have T := Lib.tabIs_of_head gMD tMD Tryz.underlying140 Tryz.underlying3 cInt cMD h
  have c : ∀ i : Nat, i < 12 → W.cell? ⟨0, i, none⟩ = some (.int .i64 (mdT.getD i 0)) := fun i hi => T.cell gMD i hi
  have h4 := laid_tail (laid_tail (laid_tail h))
  have P := Lib.tabIs_of_head gKP10 tKP10 Tryz.underlying186 Tryz.underlying43 cU64 cKP10 h4
  have h6 := laid_tail h4
  have T3 := strs_of_head gDN tDN Tryz.underlying168 Tryz.underlying9 cStr cDN h6
  have c3 : ∀ i : Nat, i < 7 → W.cell? ⟨2, i, none⟩ = some (.string (bs (dnT.getD i []))) := fun i hi => T3 i _ (by
    have hl : i < dnT.length := hi
    rw [List.getElem?_eq_getElem hl]; simp [List.getD, hl])
  have h8 := laid_tail h6
  have T5 := strs_of_head gKDR tKDR Tryz.underlying168 Tryz.underlying9 cStr cDN h8
  exact ⟨⟨⟨⟨c, World.block_lt_of_cell? W ⟨0, 0, none⟩ (c 0 (by decide))⟩, ⟨(fun g hg => by rw [gSZ0] at hg; cases hg)⟩⟩,
    ⟨c3, World.block_lt_of_cell? W ⟨2, 0, none⟩ (c3 0 (by decide))⟩, ml_of_shaped hs⟩,
    (fun g hg => by rw [gMN0] at hg; cases hg), strsAt_of gKDR (by decide) T5, fun g _ => by rw [p10L_eq] at P; exact P⟩
set_option maxRecDepth 100000 in
theorem door_ky (os : Os) (args : Array Value) : laidMetH Tryz.prog laidKY ((World.doorLaid Tryz.prog 400 os).forCall (fun _ _ => 0) ⟨#[], args, []⟩).memory :=
  laidMetH_of_parts3 (fuel := 8) (laidMet_of_run' 8 (by kernel_rfl) (by kernel_rfl)) (by kernel_rfl) (by kernel_rfl)
end Go.Proofs.YtafecnlaodgmkaaGreatDoor
