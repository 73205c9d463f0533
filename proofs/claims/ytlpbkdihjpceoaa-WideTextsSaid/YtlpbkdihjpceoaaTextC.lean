/- Contract of package wide: a number's text. -/
import Derived.Test.YtlpbkdihjpceoaaTextB
import Derived.Test.YtlpbkdihjpceoaaPkgD
import Derived.WalkKit
import Derived.ProofKit
import Derived.OpenShut
import Derived.Handy
import Derived.Outline
import Derived.Lib.Hide
import Derived.WalkSpells
import Derived.WalkLawsBesides
namespace Go.Proofs.Ytlpbkdihjpceoaa
set_option linter.unusedVariables false
open Go.ChangeShapes Go.WideShapes Go.ChangeAt Go.RowKit

/-- The room of 40 bytes: its last ones are st. -/
def rml (st : List UInt8) : List UInt8 := List.replicate (40 - st.length) 0 ++ st
def rmv (st : List UInt8) : Array Value := ((rml st).map fun c => Value.int .u8 (c.toNat : Int)).toArray
theorem rmv_size (st : List UInt8) (h : st.length ≤ 40) : (rmv st).size = 40 := by simp [rmv, rml]; omega
theorem rmv_zero (st : List UInt8) (h : st.length < 40) : (rmv st)[39 - st.length]? = some (.int .u8 0) := by
  simp only [rmv, rml, List.getElem?_toArray, List.getElem?_map]
  rw [List.getElem?_append_left (by simp; omega), List.getElem?_replicate, if_pos (by omega)]
  rfl
theorem rmv_set (st : List UInt8) (h : st.length < 40) (c : UInt8) : (rmv st).setIfInBounds (39 - st.length) (.int .u8 (c.toNat : Int)) = rmv (c :: st) := by
  unfold rmv
  rw [List.setIfInBounds_toArray]
  congr 1
  have e : Value.int .u8 (c.toNat : Int) = (fun c : UInt8 => Value.int .u8 (c.toNat : Int)) c := rfl
  rw [e, ← List.map_set]
  congr 1
  unfold rml
  rw [show 40 - st.length = (39 - st.length) + 1 by omega, List.set_append_left _ _ (by simp), show 40 - (c :: st).length = 39 - st.length by simp]
  rw [List.replicate_succ', List.set_append_right _ _ (by simp)]
  simp
theorem rmv_tail (st : List UInt8) (h : st.length ≤ 40) (j : Nat) (hj : j < st.length) : (rmv st)[40 - st.length + j]? = some (.int .u8 ((st[j]).toNat : Int)) := by
  simp only [rmv, rml, List.getElem?_toArray, List.getElem?_map]
  rw [List.getElem?_append_right (by simp)]
  simp [List.getElem?_eq_getElem hj]
theorem zvRoom (w : World) : (zeroValue 60).run Try.prog w = .ok (.agg (rmv [])) w := by kernel_rfl
attribute [irreducible] rmv
theorem heap_setCell_rm {wr : World} {b : Nat} {st : List UInt8} {t : TypeId} {fr : Nat × Nat} (hl : st.length < 40) (c : UInt8) (h : wr.heap[b]? = some (.cells (rmv st) t fr)) : (wr.setCell ⟨b, 39 - st.length, none⟩ (.int .u8 (c.toNat : Int))).heap[b]? = some (.cells (rmv (c :: st)) t fr) := by
  simp only [World.setCell, Array.getElem?_modify, if_true, h, Option.map_some]
  rw [← rmv_set st hl c]; rfl
/-- The room's end as a string. -/
theorem convRoom (st : List UInt8) (hl : st.length ≤ 40) (b : Nat) (cap : Nat) (W : World) (t : TypeId) (fr : Nat × Nat) (h : W.heap[b]? = some (.cells (rmv st) t fr)) :
    (convert 65 9 (.slice (some ⟨b, 40 - st.length, none⟩) st.length cap)).run Try.prog W = .ok (.string ⟨st.toArray⟩) W := by
  rw [run_convert_bytes_string _ _ _ _ _ _ _ Try.underlying65 Try.underlying5 Try.underlying9]
  have hc := run_loadCells_list (P := Try.prog) (w := W) (⟨b, 40 - st.length, none⟩ : Addr) ((st.map fun c => (c.toNat : Int)).map (Value.int .u8)) (fun j v hv => by
    have hj : j < st.length := by
      rcases Nat.lt_or_ge j st.length with h1 | h1
      · exact h1
      · rw [List.getElem?_eq_none (by simpa using h1)] at hv; cases hv
    have hadd : (⟨b, 40 - st.length, none⟩ : Addr).add j = ⟨b, 40 - st.length + j, none⟩ := by unfold Addr.add; split <;> simp_all
    rw [hadd, cell_of_row _ _ _ _ _ _ h, rmv_tail st hl j hj]
    simp [List.getElem?_eq_getElem hj] at hv
    rw [← hv])
  rw [List.length_map, List.length_map] at hc
  rw [run_bytesToString _ _ st.length cap _ hc]
  congr 2
  have key : ∀ (l : List UInt8) (acc : ByteArray), (l.map fun c => (c.toNat : Int)).foldl (fun r n => r.push (UInt8.ofNat n.toNat)) acc = ⟨acc.data ++ l.toArray⟩ := by
    intro l
    induction l with
    | nil => intro acc; simp
    | cons c l ih =>
      intro acc
      rw [List.map_cons, List.foldl_cons, ih]
      simp [ByteArray.push]
  rw [key]
  simp [ByteArray.empty, ByteArray.emptyWithCapacity]
  rfl

theorem wideDiv10 (h l : Nat) (u : U h) (v : U l) : ∃ q r : Nat, Hid (q = num h l / 10 ∧ r = num h l % 10) ∧ ∀ w, Calls Try.prog 31 #[.agg #[.int .u64 h, .int .u64 l], .int .u64 10] w fun e w' => e = .returned (.tuple #[.agg #[.int .u64 (hi q), .int .u64 (lo q)], .int .u64 r, .int .i64 0]) ∧ Below w.heap.size w w' :=
  ⟨_, _, ⟨rfl, rfl⟩, fun w => div_any h l 10 u v (by unfold U; omega) (by omega) w⟩
theorem convRoom2 (st : List UInt8) (p : Nat) (hp : p + st.length = 40) (b : Nat) (W : World) (t : TypeId) (fr : Nat × Nat) (h : W.heap[b]? = some (.cells (rmv st) t fr)) :
    ∀ cap, (convert 65 9 (.slice (some ⟨b, p, none⟩) (40 - p) cap)).run Try.prog W = .ok (.string ⟨st.toArray⟩) W := by
  intro cap
  have := convRoom st (by omega) b cap W t fr h
  rwa [show 40 - st.length = p by omega, show st.length = 40 - p by omega] at this
theorem sliceRoom (p : Nat) (hp : p ≤ 39) (b : Nat) (w : World) :
    (Instr.sliceAt 60 (.pointer (some ⟨b, 0, none⟩)) (some (.int .i64 p)) none none).run Try.prog w = .ok (.slice (some ⟨b, p, none⟩) (40 - p) (40 - p)) w := by
  have h0 : (0 : Int) ≤ (p : Int) := by omega
  have h1 : (p : Int) ≤ ((40 : Nat) : Int) := by omega
  have h2 : ¬ (40 = p) := by omega
  have hb := run_sliceBound (P := Try.prog) (w := w) .i64 (p : Int) 40 .sliceB h0 h1
  simp [Instr.sliceAt, run_underlying Try.underlying60, Instr.sliceBounds, Instr.sureAddr, go_sem, hb, h2, Addr.add]
  omega
/-- Text's memory: the number, the room, the rest. -/
structure Tst (s n : Nat) (h l x y : Nat) (st : List UInt8) (w wr : World) : Prop where
  a : wr.heap[s]? = some (.cells #[.int .u64 h, .int .u64 l] 24 (0, 0))
  r : wr.heap[s + 1]? = some (.cells (rmv st) 60 (0, 0))
  x : wr.heap[n]? = some (.cells #[.int .u64 x, .int .u64 y] 24 (0, 0))
  n : s + 1 < n
  b : Below s w wr
theorem Tst.call {s n h l x y : Nat} {st : List UInt8} {w wr w1 : World} (t : Tst s n h l x y st w wr) (hb : Below wr.heap.size wr w1) : Tst s n h l x y st w w1 :=
  ⟨by rw [hb.block _ (lt_of_heap t.a)]; exact t.a, by rw [hb.block _ (lt_of_heap t.r)]; exact t.r, by rw [hb.block _ (lt_of_heap t.x)]; exact t.x, t.n, t.b.trans (hb.mono (Nat.le_of_lt (lt_of_heap t.a)))⟩
theorem Tst.setR {s n h l x y : Nat} {st : List UInt8} {w wr : World} (t : Tst s n h l x y st w wr) (hl : st.length < 40) (c : UInt8) : Tst s n h l x y (c :: st) w (wr.setCell ⟨s + 1, 39 - st.length, none⟩ (.int .u8 (c.toNat : Int))) :=
  ⟨by rw [Below.heap_setCell _ _ _ _ (by show s ≠ s + 1; omega)]; exact t.a, heap_setCell_rm hl c t.r, by rw [Below.heap_setCell _ _ _ _ (by show n ≠ s + 1; have := t.n; omega)]; exact t.x, t.n, t.b.setCell (by show s ≤ s + 1; omega) _⟩
theorem Tst.setX {s n h l x y : Nat} {st : List UInt8} {w wr : World} (t : Tst s n h l x y st w wr) (p q : Nat) : Tst s n h l p q st w ((wr.setCell ⟨n, 0, none⟩ (.int .u64 p)).setCell ⟨n, 1, none⟩ (.int .u64 q)) := by
  have hn := t.n
  refine ⟨?_, ?_, row_set t.x _ _, hn, (t.b.setCell (by show s ≤ n; omega) _).setCell (by show s ≤ n; omega) _⟩
  · rw [Below.heap_setCell _ _ _ _ (by show s ≠ n; omega), Below.heap_setCell _ _ _ _ (by show s ≠ n; omega)]; exact t.a
  · rw [Below.heap_setCell _ _ _ _ (by show s + 1 ≠ n; omega), Below.heap_setCell _ _ _ _ (by show s + 1 ≠ n; omega)]; exact t.r

set_option maxHeartbeats 800000 in
set_option maxRecDepth 100000 in
theorem text_any (h l : Nat) (u : U h) (v : U l) (w : World) :
    Calls Try.prog 9 #[.agg #[.int .u64 h, .int .u64 l]] w fun e w' => e = .returned (.string ⟨(txt h l).toArray⟩) ∧ Below w.heap.size w w' := by
  have hz := zvRoom
  have HA := Lib.hid (amount_any h l u v)
  have hal := amt_lt u v
  have HL := Lib.hid hal
  obtain ⟨m, Hm⟩ : ∃ m, Hid (m = amt h l) := ⟨_, rfl⟩
  rw [← Hm.out] at HA HL
  clear hal
  go_enter Try.func9, Try.ntmps9
  go_wp2_with fail
  refine (HA.out _).mono ?_
  rintro e w1 ⟨rfl, hb1⟩
  clear hz
  have hx0 : w1.heap[w.heap.size]? = some (.cells #[.int .u64 h, .int .u64 l] 24 (0, 0)) := by rw [hb1.block _ (by simp; omega)]; simpa using heap_alloc2_old w _ _
  have hx1 : w1.heap[w.heap.size + 1]? = some (.cells (rmv []) 60 (0, 0)) := by rw [hb1.block _ (by simp)]; simpa using heap_alloc_new (w.alloc _) _
  have hn1 : w.heap.size + 1 < w1.heap.size := lt_of_heap hx1
  have HT : Hid (Tst w.heap.size w1.heap.size h l (hi m) (lo m) [] w (w1.alloc (.cells #[.int .u64 (hi m), .int .u64 (lo m)] 24))) :=
    ⟨row_alloc hx0 _, row_alloc hx1 _, heap_alloc_new w1 _, hn1, ((below2 w _ _).trans (hb1.mono (by simp; omega))).alloc (by omega) _⟩
  clear hx0 hx1 hn1 hb1
  go_wp2_with fail
  go_loopw [4] (fun s4 wr => ∃ (x y : Nat) (st : List UInt8) (p : Nat), Hid ((U x ∧ U y ∧ st.length ≤ 38 ∧ num x y * 10 ^ st.length ≤ m ∧ dg m = dg (num x y) ++ st) ∧ p + st.length = 39) ∧ s4 = .int .i64 ((p : Int) + 1) ∧ Tst w.heap.size w1.heap.size h l x y st w wr) (fun s4 _ => (intOf s4).toNat)
  case atStart => exact ⟨hi m, lo m, [], 39, ⟨⟨hi_U _, lo_U _, by decide, by rw [num_hl_of HL.out]; simp, by rw [num_hl_of HL.out]; simp⟩, by decide⟩, rfl, HT.out⟩
  case round =>
    obtain ⟨x, y, st, p, HI, rfl, hT⟩ := hrel
    clear HT
    obtain ⟨q, r, HQ, hc⟩ := wideDiv10 x y HI.out.1.1 HI.out.1.2.1
    have HC := Lib.hid hc
    have k0 : wr.cell? ⟨w1.heap.size, 0, none⟩ = some (.int .u64 x) := cell_of_row _ _ _ _ _ _ hT.x
    have k1 : wr.cell? ⟨w1.heap.size, 1, none⟩ = some (.int .u64 y) := cell_of_row _ _ _ _ _ _ hT.x
    have T0 := Lib.hid hT
    have hp39 : p ≤ 39 := by have := HI.out.2; omega
    have hp1 : 1 ≤ p := by have := HI.out; omega
    have hr : r < 10 := by have := HQ.out.2; omega
    clear hc hT
    go_wp2_with fail
    refine (HC.out _).mono ?_
    rintro e w2 ⟨rfl, hb2⟩
    have T1 := Lib.hid (T0.out.call hb2)
    have k0' : w2.cell? ⟨w1.heap.size, 0, none⟩ = some (.int .u64 x) := cell_of_row _ _ _ _ _ _ T1.out.x
    have k1' : w2.cell? ⟨w1.heap.size, 1, none⟩ = some (.int .u64 y) := cell_of_row _ _ _ _ _ _ T1.out.x
    have g0 : w2.frozen? ⟨w1.heap.size, 0, none⟩ = false := by simp [World.frozen?, T1.out.x]
    have g1 : w2.frozen? ⟨w1.heap.size, 1, none⟩ = false := by simp [World.frozen?, T1.out.x]
    have HLT : Hid (st.length < 40) := by show _ < _; have := HI.out; omega
    have kr : w2.cell? ⟨w.heap.size + 1, p, none⟩ = some (.int .u8 0) := by
      rw [cell_of_row _ _ _ _ _ _ T1.out.r, show p = 39 - st.length by have := HI.out.2; omega]; exact rmv_zero st HLT.out
    have gr : w2.frozen? ⟨w.heap.size + 1, p, none⟩ = false := by simp [World.frozen?, T1.out.r]
    have hne : ¬ (w1.heap.size = w.heap.size + 1) := by have := T1.out.n; omega
    have hne2 : ¬ (w.heap.size + 1 = w1.heap.size) := by omega
    have HP : Hid (p + st.length = 39) := HI.out.2
    have hpe : 39 - st.length = p := by have := HP.out; omega
    have HDV : Hid (((dch r).toNat : Int) = 48 + (r : Int)) := dch_val r hr
    clear hb2 k0 k1
    go_simp
    have hI := HI.out.1
    have hq := HQ.out
    have hdg := dg_step (num x y)
    rw [← hq.1, ← hq.2] at hdg
    by_cases hq0 : q = 0
    · subst hq0
      have z1 : (hi 0 : Int) = 0 := by unfold hi; rfl
      have z2 : (lo 0 : Int) = 0 := by unfold lo; rfl
      have HR : Hid (dg m = dch r :: st) := by show _ = _; rw [hI.2.2.2.2, hdg]; simp
      have hlen : (dch r :: st).length ≤ 39 := by have := hI.2.2.1; simp; omega
      have hw := (T1.out.setX (hi 0) (lo 0)).setR HLT.out (dch r)
      rw [z1, z2, show 39 - st.length = p by have := HP.out; omega, HDV.out] at hw
      have ep : 40 - (dch r :: st).length = p := by have := HP.out; simp; omega
      generalize dch r :: st = ds at *
      have HW := Lib.hid hw
      have EP := Lib.hid ep
      have HLN := Lib.hid hlen
      clear hI hq hdg hpe hw ep hlen
      have ka0 : w2.cell? ⟨w.heap.size, 0, none⟩ = some (.int .u64 h) := cell_of_row _ _ _ _ _ _ T1.out.a
      have ka1 : w2.cell? ⟨w.heap.size, 1, none⟩ = some (.int .u64 l) := cell_of_row _ _ _ _ _ _ T1.out.a
      have hne3 : ¬ (w.heap.size = w1.heap.size) := by have := T1.out.n; omega
      have hne4 : ¬ (w1.heap.size = w.heap.size) := by omega
      have hbn := negative_any h l u
      cases hn : neg h <;> rw [hn] at hbn <;> (have HB := Lib.hid hbn; clear hbn)
      · have HX : Hid (txt h l = ds) := by show _ = _; unfold txt; rw [if_neg (by rw [hn]; decide), ← Hm.out]; exact HR.out
        clear hn
        go_wp2_with fail
        refine (HB.out _).mono ?_
        rintro e w3 ⟨rfl, hb3⟩
        have T3 := Lib.hid (HW.out.call hb3)
        have hsl := sliceRoom p hp39
        have cv := convRoom2 ds p (by have := EP.out; have := HLN.out; omega) _ w3 _ _ T3.out.r
        clear hb3 ka0 ka1 kr gr k0' k1' g0 g1
        go_wp2
        go_ret
        exact ⟨by rw [HX.out]; rfl, T3.out.b⟩
      · have HX : Hid (txt h l = 45 :: ds) := by show _ = _; unfold txt; rw [if_pos hn, ← Hm.out, HR.out]
        clear hn
        go_wp2_with fail
        refine (HB.out _).mono ?_
        rintro e w3 ⟨rfl, hb3⟩
        have T3 := Lib.hid (HW.out.call hb3)
        have hlt40 : ds.length < 40 := by have := HLN.out; omega
        have kr3 : w3.cell? ⟨w.heap.size + 1, p - 1, none⟩ = some (.int .u8 0) := by
          rw [cell_of_row _ _ _ _ _ _ T3.out.r, show p - 1 = 39 - ds.length by have := EP.out; omega]; exact rmv_zero ds hlt40
        have gr3 : w3.frozen? ⟨w.heap.size + 1, p - 1, none⟩ = false := by simp [World.frozen?, T3.out.r]
        have ep1 : ((p : Int) - 1).toNat = p - 1 := by omega
        have hset := T3.out.setR hlt40 45
        rw [show 39 - ds.length = p - 1 by have := EP.out; omega] at hset
        rw [show (((45 : UInt8).toNat : Nat) : Int) = 45 from rfl] at hset
        have T4 := Lib.hid hset
        have hsl : ∀ (b : Nat) (w : World), (Instr.sliceAt 60 (.pointer (some ⟨b, 0, none⟩)) (some (.int .i64 ((p : Int) - 1))) none none).run Try.prog w = .ok (.slice (some ⟨b, p - 1, none⟩) (40 - (p - 1)) (40 - (p - 1))) w := fun b w => by
          have := sliceRoom (p - 1) (by omega) b w
          rwa [show ((p - 1 : Nat) : Int) = (p : Int) - 1 by omega] at this
        have cv := convRoom2 (45 :: ds) (p - 1) (by have := EP.out; have := HLN.out; simp; omega) _ _ _ _ hset.r
        clear hb3 ka0 ka1 kr gr k0' k1' g0 g1 hset hlt40
        go_wp2
        go_ret
        exact ⟨by rw [HX.out]; rfl, T4.out.b⟩
    · have hlt : q < 340282366920938463463374607431768211456 := by rw [hq.1]; have := num_lt hI.1 hI.2.1; omega
      have HN : Hid (U (hi q) ∧ U (lo q) ∧ (dch r :: st).length ≤ 38 ∧ num (hi q) (lo q) * 10 ^ (dch r :: st).length ≤ m ∧ dg m = dg (num (hi q) (lo q)) ++ (dch r :: st)) := by
        rw [num_hl_of hlt]
        have h10 : q * 10 ^ (st.length + 1) ≤ m := by
          have h1 : q * 10 ≤ num x y := by rw [hq.1]; omega
          have h2 : q * 10 * 10 ^ st.length ≤ num x y * 10 ^ st.length := Nat.mul_le_mul_right _ h1
          rw [Nat.pow_succ, Nat.mul_comm (10 ^ st.length) 10, ← Nat.mul_assoc]
          exact Nat.le_trans h2 hI.2.2.2.1
        refine ⟨hi_U _, lo_U _, ?_, by simpa using h10, ?_⟩
        · rcases Nat.lt_or_ge 38 (st.length + 1) with h38 | h38
          · have h3 : 10 ^ 39 ≤ 10 ^ (st.length + 1) := Nat.pow_le_pow_right (by omega) (by omega)
            have h4 : 1 * 10 ^ (st.length + 1) ≤ q * 10 ^ (st.length + 1) := Nat.mul_le_mul_right _ (by omega)
            have h5 := HL.out
            have h6 : (340282366920938463463374607431768211456 : Nat) < 10 ^ 39 := by decide
            omega
          · simpa using h38
        · rw [hI.2.2.2.2, hdg, if_neg hq0]; simp
      have hqz : ¬ (hi q = 0 ∧ lo q = 0) := fun ⟨a, b⟩ => hq0 (by have := num_hl_of hlt; rw [a, b, num_zero] at this; omega)
      clear hI hq hdg hlt hpe
      by_cases hz : hi q = 0
      · have hz2 : ¬ (lo q = 0) := fun b => hqz ⟨hz, b⟩
        clear hqz
        have z1 : (hi q : Int) = 0 := by rw [hz]; rfl
        have HZ := Lib.hid hz
        clear hz
        have z2 : ((lo q : Int) == 0) = false := by rw [beq_eq_false_iff_ne]; omega
        go_wp2
        go_roundw
        case rel =>
          have hw := (T1.out.setX (hi q) (lo q)).setR HLT.out (dch r)
          rw [show 39 - st.length = p by have := HP.out; omega] at hw
          obtain ⟨p', hp'⟩ : ∃ p', p = p' + 1 := ⟨p - 1, by omega⟩
          exact ⟨hi q, lo q, dch r :: st, p', ⟨HN.out, by have := HP.out; simp; omega⟩, congrArg (Value.int .i64) (by omega), by rw [← HDV.out]; first | exact hw | (rw [z1] at hw; exact hw)⟩
        case measure => first | (simp [intOf]; done) | (simp [intOf]; omega)
      · clear hqz
        have z2 : ((hi q : Int) == 0) = false := by rw [beq_eq_false_iff_ne]; omega
        go_wp2
        go_roundw
        case rel =>
          have hw := (T1.out.setX (hi q) (lo q)).setR HLT.out (dch r)
          rw [show 39 - st.length = p by have := HP.out; omega] at hw
          obtain ⟨p', hp'⟩ : ∃ p', p = p' + 1 := ⟨p - 1, by omega⟩
          exact ⟨hi q, lo q, dch r :: st, p', ⟨HN.out, by have := HP.out; simp; omega⟩, congrArg (Value.int .i64) (by omega), by rw [← HDV.out]; first | exact hw | (rw [z1] at hw; exact hw)⟩
        case measure => first | (simp [intOf]; done) | (simp [intOf]; omega)
end Go.Proofs.Ytlpbkdihjpceoaa
