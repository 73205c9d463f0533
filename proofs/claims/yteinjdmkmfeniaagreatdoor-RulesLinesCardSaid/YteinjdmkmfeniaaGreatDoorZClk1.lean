/- Several texts in one: ClkA, ClkB, ClkC, ClkD, ClkM. -/
import Derived.Test.YteinjdmkmfeniaaGreatDoorZPkg1
import Derived.Test.YteinjdmkmfeniaaGreatDoorZRef1
import Derived.Test.YteinjdmkmfeniaaGreatDoorShelf
import Derived.Test.YteinjdmkmfeniaaGreatDoorZPkg2
import Derived.Test.YteinjdmkmfeniaaGreatDoorZRowS1
import Derived.Test.YteinjdmkmfeniaaGreatDoorZInst1
import Derived.Outline
import Derived.Deep.Cut
import Derived.Deep.RegionHeld3
import Derived.OwnWalk
import Derived.Lib.LaidTab
import Derived.Lib.Zigzag
import Derived.Lib.Small
import Derived.Test.YteinjdmkmfeniaaGreatDoorRows
import Derived.LaidMore
import Derived.MakeChecks
import Derived.Stop.Joined
namespace Go.Proofs.YteinjdmkmfeniaaGreatDoor
set_option linter.unusedVariables false
set_option linter.unusedSimpArgs false
open Go.ChangeShapes Go.WideShapes Go.ChangeAt Go.RowKit
theorem keep4 {W0 W : World} {k : Nat} (h : Below W0.heap.size W0 W) (hk : W0.heap.size ≤ k) (a b c d : Value) : Below W0.heap.size W0 ((((W.setCell ⟨k, 0, none⟩ a).setCell ⟨k, 1, none⟩ b).setCell ⟨k, 2, none⟩ c).setCell ⟨k, 3, none⟩ d) :=
  (((h.setCell (by exact hk) _).setCell (by exact hk) _).setCell (by exact hk) _).setCell (by exact hk) _
def okK (h m s n : Int) : Prop := 0 ≤ h ∧ h ≤ 23 ∧ 0 ≤ m ∧ m ≤ 59 ∧ 0 ≤ s ∧ s ≤ 59 ∧ 0 ≤ n ∧ n < 1000000000
instance (h m s n : Int) : Decidable (okK h m s n) := by unfold okK; infer_instance
@[irreducible] def ckK (h m s n : Int) : Int := if okK h m s n then 0 else 5
theorem ckK_ok {h m s n : Int} (k : okK h m s n) : ckK h m s n = 0 := by unfold ckK; exact if_pos k
theorem ckK_no {h m s n : Int} (k : ¬ okK h m s n) : ckK h m s n = 5 := by unfold ckK; exact if_neg k
theorem of_ckK {h m s n : Int} (k : ckK h m s n = 0) : okK h m s n := by
  by_cases k2 : okK h m s n
  · exact k2
  · rw [ckK_no k2] at k; omega
def scK (h m s : Int) : Int := 3600 * h + 60 * m + s
theorem scK_bd {h m s n : Int} (k : okK h m s n) : 0 ≤ scK h m s ∧ scK h m s < 86400 := by unfold okK at k; unfold scK; omega
def nnK (h m s n : Int) : Int := if ckK h m s n = 0 then scK h m s * 1000000000 + n else 0
theorem nnK_ok {h m s n : Int} (k : ckK h m s n = 0) : nnK h m s n = scK h m s * 1000000000 + n := if_pos k
theorem nnK_no {h m s n : Int} (k : ckK h m s n ≠ 0) : nnK h m s n = 0 := if_neg k
def kS (n : Int) : Int := n / 1000000000 % 60
def kN (n : Int) : Int := n % 1000000000
end Go.Proofs.YteinjdmkmfeniaaGreatDoor
namespace Go.Proofs.YteinjdmkmfeniaaGreatDoor
set_option linter.unusedVariables false
set_option linter.unusedSimpArgs false
open Go.ChangeShapes Go.WideShapes Go.ChangeAt Go.RowKit
theorem tdiv_parts (x c : Int) (hc : 0 < c) : (x.tmod c < 0 → x % c = x.tmod c + c ∧ x / c = x.tdiv c - 1) ∧ (¬ x.tmod c < 0 → x % c = x.tmod c ∧ x / c = x.tdiv c) ∧ -c < x.tmod c ∧ x.tmod c < c := by
  have h1 := Int.lt_tmod_of_pos x hc
  have h2 := Int.tmod_lt_of_pos x hc
  have h3 := Int.tmod_add_mul_tdiv x c
  have h4 := Int.emod_add_mul_ediv x c
  have h5 := Int.emod_nonneg x (show c ≠ 0 by omega)
  have h6 := Int.emod_lt_of_pos x hc
  refine ⟨fun h => ?_, fun h => ?_, by omega, h2⟩
  · have e : c * (x / c - (x.tdiv c - 1)) = x.tmod c + c - x % c := by rw [Int.mul_sub, Int.mul_sub]; omega
    have e0 : x / c - (x.tdiv c - 1) = 0 := by
      rcases Int.lt_trichotomy (x / c - (x.tdiv c - 1)) 0 with k | k | k
      · have := Int.mul_le_mul_of_nonneg_left (show x / c - (x.tdiv c - 1) ≤ -1 by omega) (show 0 ≤ c by omega)
        omega
      · exact k
      · have := Int.mul_le_mul_of_nonneg_left (show 1 ≤ x / c - (x.tdiv c - 1) by omega) (show 0 ≤ c by omega)
        omega
    rw [e0] at e
    omega
  · have e : c * (x / c - x.tdiv c) = x.tmod c - x % c := by rw [Int.mul_sub]; omega
    have e0 : x / c - x.tdiv c = 0 := by
      rcases Int.lt_trichotomy (x / c - x.tdiv c) 0 with k | k | k
      · have := Int.mul_le_mul_of_nonneg_left (show x / c - x.tdiv c ≤ -1 by omega) (show 0 ≤ c by omega)
        omega
      · exact k
      · have := Int.mul_le_mul_of_nonneg_left (show 1 ≤ x / c - x.tdiv c by omega) (show 0 ≤ c by omega)
        omega
    rw [e0] at e
    omega
end Go.Proofs.YteinjdmkmfeniaaGreatDoor
namespace Go.Proofs.YteinjdmkmfeniaaGreatDoor
set_option linter.unusedVariables false
set_option linter.unusedSimpArgs false
open Go.ChangeShapes Go.WideShapes Go.ChangeAt Go.RowKit
def szT : List Int := [24, 60, 60, 1000000000]
structure SZ (w : World) : Prop where
  cell : ∀ i : Nat, i < 4 → w.cell? ⟨7, i, none⟩ = some (.int .i64 (szT.getD i 0))
  size : 7 < w.heap.size
theorem SZ.keep {w w' : World} {n : Nat} (h : SZ w) (hb : Below n w w') (hn : 7 < n) : SZ w' :=
  ⟨fun i hi => (hb.cell (p := ⟨7, i, none⟩) hn).trans (h.cell i hi), Nat.lt_of_lt_of_le h.size hb.size⟩
theorem sz_keep {w w' : World} (h : Hid (SZ w)) (hb : Below w.heap.size w w') : SZ w' := h.out.keep hb h.out.size
@[irreducible] def tgK (h m s n : Int) : Int := IntKind.i64.wrap (((h * 60 + m) * 60 + s) * 1000000000 + n)
theorem wrap_in (a b c : Int) : IntKind.i64.wrap (IntKind.i64.wrap (IntKind.i64.wrap a * 60) + b) = IntKind.i64.wrap (a * 60 + b) ∧ IntKind.i64.wrap (IntKind.i64.wrap (IntKind.i64.wrap a * 1000000000) + b) = IntKind.i64.wrap (a * 1000000000 + b) := by
  simp only [IntKind.wrap_i64]
  exact ⟨by omega, by omega⟩
set_option maxHeartbeats 3200000 in
set_option maxRecDepth 100000 in
theorem tog_of (h m s n A1 A2 A3 A4 B2 B3 B4 : Int) (w : World) (hM : SZ w) (f1 : IntKind.i64.wrap h = A1) (g2 : IntKind.i64.wrap (A1 * 60) = B2) (f2 : IntKind.i64.wrap (B2 + m) = A2)
    (g3 : IntKind.i64.wrap (A2 * 60) = B3) (f3 : IntKind.i64.wrap (B3 + s) = A3) (g4 : IntKind.i64.wrap (A3 * 1000000000) = B4) (f4 : IntKind.i64.wrap (B4 + n) = A4) :
    Calls Tryz.prog 127 #[.agg #[.int .i64 h, .int .i64 m, .int .i64 s, .int .i64 n]] w fun e w' => e = .returned (.int .i64 A4) ∧ Below w.heap.size w w' := by
  have c0 : w.cell? ⟨7, 0, none⟩ = some (.int .i64 24) := hM.cell 0 (by decide)
  have c1 : w.cell? ⟨7, 1, none⟩ = some (.int .i64 60) := hM.cell 1 (by decide)
  have c2 : w.cell? ⟨7, 2, none⟩ = some (.int .i64 60) := hM.cell 2 (by decide)
  have c3 : w.cell? ⟨7, 3, none⟩ = some (.int .i64 1000000000) := hM.cell 3 (by decide)
  have zg := hM.size
  clear hM
  have i0 : ∀ w, (Instr.index 158 (.agg #[.int .i64 24, .int .i64 60, .int .i64 60, .int .i64 1000000000]) (.int .i64 0)).run Tryz.prog w = .ok (.int .i64 24) w := fun _ => by kernel_rfl
  have i1 : ∀ w, (Instr.index 158 (.agg #[.int .i64 24, .int .i64 60, .int .i64 60, .int .i64 1000000000]) (.int .i64 1)).run Tryz.prog w = .ok (.int .i64 60) w := fun _ => by kernel_rfl
  have i2 : ∀ w, (Instr.index 158 (.agg #[.int .i64 24, .int .i64 60, .int .i64 60, .int .i64 1000000000]) (.int .i64 2)).run Tryz.prog w = .ok (.int .i64 60) w := fun _ => by kernel_rfl
  have i3 : ∀ w, (Instr.index 158 (.agg #[.int .i64 24, .int .i64 60, .int .i64 60, .int .i64 1000000000]) (.int .i64 3)).run Tryz.prog w = .ok (.int .i64 1000000000) w := fun _ => by kernel_rfl
  go_enter Tryz.func127, Tryz.ntmps127
  go_wp2
  go_loop [3, 7] (fun n t => (t = .int .i64 0 ∧ n = .int .i64 0) ∨ (t = .int .i64 1 ∧ n = .int .i64 A1) ∨ (t = .int .i64 2 ∧ n = .int .i64 A2) ∨ (t = .int .i64 3 ∧ n = .int .i64 A3) ∨ (t = .int .i64 4 ∧ n = .int .i64 A4)) (fun _ t => (4 - intOf t).toNat)
  case atStart => exact Or.inl ⟨rfl, rfl⟩
  case round =>
    rcases hrel with ⟨rfl, rfl⟩ | ⟨rfl, rfl⟩ | ⟨rfl, rfl⟩ | ⟨rfl, rfl⟩ | ⟨rfl, rfl⟩
    · go_wp2
      go_round
      case rel => exact Or.inr (Or.inl ⟨rfl, rfl⟩)
      case measure => simp [intOf]
    · go_wp2
      go_round
      case rel => exact Or.inr (Or.inr (Or.inl ⟨rfl, rfl⟩))
      case measure => simp [intOf]
    · go_wp2
      go_round
      case rel => exact Or.inr (Or.inr (Or.inr (Or.inl ⟨rfl, rfl⟩)))
      case measure => simp [intOf]
    · go_wp2
      go_round
      case rel => exact Or.inr (Or.inr (Or.inr (Or.inr ⟨rfl, rfl⟩)))
      case measure => simp [intOf]
    · go_wp2
      go_ret
      exact ⟨rfl, (Below.refl _ _).alloc (Nat.le_refl _) _⟩
theorem pTog_any (h m s n : Int) (w : World) (hM : SZ w) : Calls Tryz.prog 127 #[.agg #[.int .i64 h, .int .i64 m, .int .i64 s, .int .i64 n]] w fun e w' => e = .returned (.int .i64 (tgK h m s n)) ∧ Below w.heap.size w w' := by
  refine tog_of h m s n (IntKind.i64.wrap h) (IntKind.i64.wrap (h * 60 + m)) (IntKind.i64.wrap ((h * 60 + m) * 60 + s)) (tgK h m s n) _ _ _ w hM rfl rfl (wrap_in h m 0).1 rfl (wrap_in (h * 60 + m) s 0).1 rfl ?_
  unfold tgK
  exact (wrap_in ((h * 60 + m) * 60 + s) n 0).2
theorem two_rows (w : World) (a b : Obj) : ((w.alloc a).alloc b).heap[w.heap.size]? = some a ∧ ((w.alloc a).alloc b).heap[w.heap.size + 1]? = some b := by
  have e : (w.alloc a).heap.size = w.heap.size + 1 := by simp
  have h := heap_alloc_new (w.alloc a) b
  rw [e] at h
  refine ⟨?_, h⟩
  rw [Below.heap_alloc (w.alloc a) b _ (by omega)]
  exact heap_alloc_new w a
def stg (x c q r : Int) : Prop := -9223372036854775807 ≤ x.tdiv c ∧ x.tdiv c ≤ 9223372036854775807 ∧ -1000000000 ≤ x.tmod c ∧ x.tmod c ≤ 1000000000 ∧ ((x.tmod c < 0 ∧ x.tmod c + c = r ∧ x.tdiv c - 1 = q) ∨ (decide (x.tmod c < 0) = false ∧ x.tmod c = r ∧ x.tdiv c = q))
theorem stg_any (x c : Int) (b : in64 x) (h1 : 1 < c) (h2 : c ≤ 1000000000) : stg x c (x / c) (x % c) := by
  obtain ⟨t1, t2, t3, t4⟩ := tdiv_parts x c (by omega)
  unfold in64 at b
  have q1 : -4611686018427387904 ≤ x / c := by
    rw [Int.le_ediv_iff_mul_le (by omega)]
    have := Int.mul_le_mul_of_nonneg_left (show (2 : Int) ≤ c by omega) (show (0 : Int) ≤ 4611686018427387904 by decide)
    omega
  have q2 : x / c ≤ 4611686018427387904 := by
    have : x / c < 4611686018427387905 := by
      rw [Int.ediv_lt_iff_lt_mul (by omega)]
      have := Int.mul_le_mul_of_nonneg_left (show (2 : Int) ≤ c by omega) (show (0 : Int) ≤ 4611686018427387905 by decide)
      omega
    omega
  unfold stg
  by_cases h : x.tmod c < 0
  · obtain ⟨u1, u2⟩ := t1 h
    exact ⟨by omega, by omega, by omega, by omega, Or.inl ⟨h, u1.symm, u2.symm⟩⟩
  · obtain ⟨u1, u2⟩ := t2 h
    exact ⟨by omega, by omega, by omega, by omega, Or.inr ⟨decide_eq_false h, u1.symm, u2.symm⟩⟩
set_option maxHeartbeats 3200000 in
set_option maxRecDepth 100000 in
theorem apart_of (n X2 X1 X0 D a b c d : Int) (w : World) (hM : SZ w) (K3 : stg n 1000000000 X2 d) (K2 : stg X2 60 X1 c) (K1 : stg X1 60 X0 b) (K0 : stg X0 24 D a) :
    Calls Tryz.prog 131 #[.int .i64 n] w fun e w' => e = .returned (.tuple #[.int .i64 D, .agg #[.int .i64 a, .int .i64 b, .int .i64 c, .int .i64 d]]) ∧ Below w.heap.size w w' := by
  have zg := hM.size
  go_enter Tryz.func131, Tryz.ntmps131
  refine wp_shut ?_
  go_wp2
  go_loopw [5, 6] (fun s5 s6 wr => ((s6 = .int .i64 3 ∧ s5 = .int .i64 n ∧ wr.heap[w.heap.size + 1]? = some (.cells #[.int .i64 0, .int .i64 0, .int .i64 0, .int .i64 0] 159 (0, 0))) ∨ (s6 = .int .i64 2 ∧ s5 = .int .i64 X2 ∧ wr.heap[w.heap.size + 1]? = some (.cells #[.int .i64 0, .int .i64 0, .int .i64 0, .int .i64 d] 159 (0, 0))) ∨ (s6 = .int .i64 1 ∧ s5 = .int .i64 X1 ∧ wr.heap[w.heap.size + 1]? = some (.cells #[.int .i64 0, .int .i64 0, .int .i64 c, .int .i64 d] 159 (0, 0))) ∨ (s6 = .int .i64 0 ∧ s5 = .int .i64 X0 ∧ wr.heap[w.heap.size + 1]? = some (.cells #[.int .i64 0, .int .i64 b, .int .i64 c, .int .i64 d] 159 (0, 0))) ∨ (s6 = .int .i64 (-1) ∧ s5 = .int .i64 D ∧ wr.heap[w.heap.size + 1]? = some (.cells #[.int .i64 a, .int .i64 b, .int .i64 c, .int .i64 d] 159 (0, 0)))) ∧ wr.heap[w.heap.size]? = some (.cells #[.int .i64 0, .int .i64 0, .int .i64 0, .int .i64 0] 159 (0, 0)) ∧ Below w.heap.size w wr) (fun _ s6 _ => (intOf s6 + 1).toNat)
  case atStart => exact ⟨Or.inl ⟨rfl, rfl, (two_rows w _ _).2⟩, (two_rows w _ _).1, ((Below.refl _ _).alloc (Nat.le_refl _) _).alloc (by simp) _⟩
  case round =>
    obtain ⟨hrel, hZ, hB⟩ := hrel
    obtain ⟨V20, rfl⟩ : ∃ V, V = wr := ⟨_, rfl⟩
    have Z1 := Lib.hid hZ
    have B20 := Lib.hid hB
    clear hZ hB
    rcases hrel with ⟨rfl, rfl, hS⟩ | ⟨rfl, rfl, hS⟩ | ⟨rfl, rfl, hS⟩ | ⟨rfl, rfl, hS⟩ | ⟨rfl, rfl, hS⟩
    · have S1 := Lib.hid hS
      clear hS
      have cg : V20.cell? ⟨7, 3, none⟩ = some (.int .i64 1000000000) := (hM.keep B20.out zg).cell 3 (by decide)
      have zV := B20.out.size
      clear hM
      obtain ⟨b1, b2, b3, b4, ⟨k1, k2, k3⟩ | ⟨k1, k2, k3⟩⟩ := K3
      · clear K2 K1 K0
        generalize hr : (n : Int).tmod 1000000000 = t at *
        generalize hq : (n : Int).tdiv 1000000000 = u at *
        
        have Z1_f0 : V20.frozen? ⟨w.heap.size, 0, none⟩ = false := by simp [World.frozen?, Z1.out]
        have Z1_f1 : V20.frozen? ⟨w.heap.size, 1, none⟩ = false := by simp [World.frozen?, Z1.out]
        have Z1_f2 : V20.frozen? ⟨w.heap.size, 2, none⟩ = false := by simp [World.frozen?, Z1.out]
        have Z1_f3 : V20.frozen? ⟨w.heap.size, 3, none⟩ = false := by simp [World.frozen?, Z1.out]
        have Z1_0 : V20.cell? ⟨w.heap.size, 0, none⟩ = some (.int .i64 0) := cell_of_row _ _ _ _ _ _ Z1.out
        have Z1_1 : V20.cell? ⟨w.heap.size, 1, none⟩ = some (.int .i64 0) := cell_of_row _ _ _ _ _ _ Z1.out
        have Z1_2 : V20.cell? ⟨w.heap.size, 2, none⟩ = some (.int .i64 0) := cell_of_row _ _ _ _ _ _ Z1.out
        have Z1_3 : V20.cell? ⟨w.heap.size, 3, none⟩ = some (.int .i64 0) := cell_of_row _ _ _ _ _ _ Z1.out
        have zZ1 := lt_of_heap Z1.out
        have S1_f0 : V20.frozen? ⟨w.heap.size + 1, 0, none⟩ = false := by simp [World.frozen?, S1.out]
        have S1_f1 : V20.frozen? ⟨w.heap.size + 1, 1, none⟩ = false := by simp [World.frozen?, S1.out]
        have S1_f2 : V20.frozen? ⟨w.heap.size + 1, 2, none⟩ = false := by simp [World.frozen?, S1.out]
        have S1_f3 : V20.frozen? ⟨w.heap.size + 1, 3, none⟩ = false := by simp [World.frozen?, S1.out]
        have S1_0 : V20.cell? ⟨w.heap.size + 1, 0, none⟩ = some (.int .i64 0) := cell_of_row _ _ _ _ _ _ S1.out
        have S1_1 : V20.cell? ⟨w.heap.size + 1, 1, none⟩ = some (.int .i64 0) := cell_of_row _ _ _ _ _ _ S1.out
        have S1_2 : V20.cell? ⟨w.heap.size + 1, 2, none⟩ = some (.int .i64 0) := cell_of_row _ _ _ _ _ _ S1.out
        have S1_3 : V20.cell? ⟨w.heap.size + 1, 3, none⟩ = some (.int .i64 0) := cell_of_row _ _ _ _ _ _ S1.out
        have zS1 := lt_of_heap S1.out
        go_wp2
        go_region
        go_wp2
        exact ⟨⟨Or.inr (Or.inl ⟨rfl, rfl, row_set1 (row_set1 S1.out 3 _) 3 _⟩), row_other1 (by omega) (row_other1 (by omega) Z1.out 3 _) 3 _, (keep1 (keep1 B20.out (by omega) 3 _) (by omega) 3 _).drew⟩, by simp [intOf]⟩
      · clear K2 K1 K0
        generalize hr : (n : Int).tmod 1000000000 = t at *
        generalize hq : (n : Int).tdiv 1000000000 = u at *
        subst k2
        subst k3
        
        have Z1_f0 : V20.frozen? ⟨w.heap.size, 0, none⟩ = false := by simp [World.frozen?, Z1.out]
        have Z1_f1 : V20.frozen? ⟨w.heap.size, 1, none⟩ = false := by simp [World.frozen?, Z1.out]
        have Z1_f2 : V20.frozen? ⟨w.heap.size, 2, none⟩ = false := by simp [World.frozen?, Z1.out]
        have Z1_f3 : V20.frozen? ⟨w.heap.size, 3, none⟩ = false := by simp [World.frozen?, Z1.out]
        have Z1_0 : V20.cell? ⟨w.heap.size, 0, none⟩ = some (.int .i64 0) := cell_of_row _ _ _ _ _ _ Z1.out
        have Z1_1 : V20.cell? ⟨w.heap.size, 1, none⟩ = some (.int .i64 0) := cell_of_row _ _ _ _ _ _ Z1.out
        have Z1_2 : V20.cell? ⟨w.heap.size, 2, none⟩ = some (.int .i64 0) := cell_of_row _ _ _ _ _ _ Z1.out
        have Z1_3 : V20.cell? ⟨w.heap.size, 3, none⟩ = some (.int .i64 0) := cell_of_row _ _ _ _ _ _ Z1.out
        have zZ1 := lt_of_heap Z1.out
        have S1_f0 : V20.frozen? ⟨w.heap.size + 1, 0, none⟩ = false := by simp [World.frozen?, S1.out]
        have S1_f1 : V20.frozen? ⟨w.heap.size + 1, 1, none⟩ = false := by simp [World.frozen?, S1.out]
        have S1_f2 : V20.frozen? ⟨w.heap.size + 1, 2, none⟩ = false := by simp [World.frozen?, S1.out]
        have S1_f3 : V20.frozen? ⟨w.heap.size + 1, 3, none⟩ = false := by simp [World.frozen?, S1.out]
        have S1_0 : V20.cell? ⟨w.heap.size + 1, 0, none⟩ = some (.int .i64 0) := cell_of_row _ _ _ _ _ _ S1.out
        have S1_1 : V20.cell? ⟨w.heap.size + 1, 1, none⟩ = some (.int .i64 0) := cell_of_row _ _ _ _ _ _ S1.out
        have S1_2 : V20.cell? ⟨w.heap.size + 1, 2, none⟩ = some (.int .i64 0) := cell_of_row _ _ _ _ _ _ S1.out
        have S1_3 : V20.cell? ⟨w.heap.size + 1, 3, none⟩ = some (.int .i64 0) := cell_of_row _ _ _ _ _ _ S1.out
        have zS1 := lt_of_heap S1.out
        go_wp2
        exact ⟨⟨Or.inr (Or.inl ⟨rfl, rfl, row_set1 S1.out 3 _⟩), row_other1 (by omega) Z1.out 3 _, keep1 B20.out (by omega) 3 _⟩, by simp [intOf]⟩
    · have S1 := Lib.hid hS
      clear hS
      have cg : V20.cell? ⟨7, 2, none⟩ = some (.int .i64 60) := (hM.keep B20.out zg).cell 2 (by decide)
      have zV := B20.out.size
      clear hM
      obtain ⟨b1, b2, b3, b4, ⟨k1, k2, k3⟩ | ⟨k1, k2, k3⟩⟩ := K2
      · clear K3 K1 K0
        generalize hr : (X2 : Int).tmod 60 = t at *
        generalize hq : (X2 : Int).tdiv 60 = u at *
        
        have Z1_f0 : V20.frozen? ⟨w.heap.size, 0, none⟩ = false := by simp [World.frozen?, Z1.out]
        have Z1_f1 : V20.frozen? ⟨w.heap.size, 1, none⟩ = false := by simp [World.frozen?, Z1.out]
        have Z1_f2 : V20.frozen? ⟨w.heap.size, 2, none⟩ = false := by simp [World.frozen?, Z1.out]
        have Z1_f3 : V20.frozen? ⟨w.heap.size, 3, none⟩ = false := by simp [World.frozen?, Z1.out]
        have Z1_0 : V20.cell? ⟨w.heap.size, 0, none⟩ = some (.int .i64 0) := cell_of_row _ _ _ _ _ _ Z1.out
        have Z1_1 : V20.cell? ⟨w.heap.size, 1, none⟩ = some (.int .i64 0) := cell_of_row _ _ _ _ _ _ Z1.out
        have Z1_2 : V20.cell? ⟨w.heap.size, 2, none⟩ = some (.int .i64 0) := cell_of_row _ _ _ _ _ _ Z1.out
        have Z1_3 : V20.cell? ⟨w.heap.size, 3, none⟩ = some (.int .i64 0) := cell_of_row _ _ _ _ _ _ Z1.out
        have zZ1 := lt_of_heap Z1.out
        have S1_f0 : V20.frozen? ⟨w.heap.size + 1, 0, none⟩ = false := by simp [World.frozen?, S1.out]
        have S1_f1 : V20.frozen? ⟨w.heap.size + 1, 1, none⟩ = false := by simp [World.frozen?, S1.out]
        have S1_f2 : V20.frozen? ⟨w.heap.size + 1, 2, none⟩ = false := by simp [World.frozen?, S1.out]
        have S1_f3 : V20.frozen? ⟨w.heap.size + 1, 3, none⟩ = false := by simp [World.frozen?, S1.out]
        have S1_0 : V20.cell? ⟨w.heap.size + 1, 0, none⟩ = some (.int .i64 0) := cell_of_row _ _ _ _ _ _ S1.out
        have S1_1 : V20.cell? ⟨w.heap.size + 1, 1, none⟩ = some (.int .i64 0) := cell_of_row _ _ _ _ _ _ S1.out
        have S1_2 : V20.cell? ⟨w.heap.size + 1, 2, none⟩ = some (.int .i64 0) := cell_of_row _ _ _ _ _ _ S1.out
        have S1_3 : V20.cell? ⟨w.heap.size + 1, 3, none⟩ = some (.int .i64 d) := cell_of_row _ _ _ _ _ _ S1.out
        have zS1 := lt_of_heap S1.out
        go_wp2
        go_region
        go_wp2
        exact ⟨⟨Or.inr (Or.inr (Or.inl ⟨rfl, rfl, row_set1 (row_set1 S1.out 2 _) 2 _⟩)), row_other1 (by omega) (row_other1 (by omega) Z1.out 2 _) 2 _, (keep1 (keep1 B20.out (by omega) 2 _) (by omega) 2 _).drew⟩, by simp [intOf]⟩
      · clear K3 K1 K0
        generalize hr : (X2 : Int).tmod 60 = t at *
        generalize hq : (X2 : Int).tdiv 60 = u at *
        subst k2
        subst k3
        
        have Z1_f0 : V20.frozen? ⟨w.heap.size, 0, none⟩ = false := by simp [World.frozen?, Z1.out]
        have Z1_f1 : V20.frozen? ⟨w.heap.size, 1, none⟩ = false := by simp [World.frozen?, Z1.out]
        have Z1_f2 : V20.frozen? ⟨w.heap.size, 2, none⟩ = false := by simp [World.frozen?, Z1.out]
        have Z1_f3 : V20.frozen? ⟨w.heap.size, 3, none⟩ = false := by simp [World.frozen?, Z1.out]
        have Z1_0 : V20.cell? ⟨w.heap.size, 0, none⟩ = some (.int .i64 0) := cell_of_row _ _ _ _ _ _ Z1.out
        have Z1_1 : V20.cell? ⟨w.heap.size, 1, none⟩ = some (.int .i64 0) := cell_of_row _ _ _ _ _ _ Z1.out
        have Z1_2 : V20.cell? ⟨w.heap.size, 2, none⟩ = some (.int .i64 0) := cell_of_row _ _ _ _ _ _ Z1.out
        have Z1_3 : V20.cell? ⟨w.heap.size, 3, none⟩ = some (.int .i64 0) := cell_of_row _ _ _ _ _ _ Z1.out
        have zZ1 := lt_of_heap Z1.out
        have S1_f0 : V20.frozen? ⟨w.heap.size + 1, 0, none⟩ = false := by simp [World.frozen?, S1.out]
        have S1_f1 : V20.frozen? ⟨w.heap.size + 1, 1, none⟩ = false := by simp [World.frozen?, S1.out]
        have S1_f2 : V20.frozen? ⟨w.heap.size + 1, 2, none⟩ = false := by simp [World.frozen?, S1.out]
        have S1_f3 : V20.frozen? ⟨w.heap.size + 1, 3, none⟩ = false := by simp [World.frozen?, S1.out]
        have S1_0 : V20.cell? ⟨w.heap.size + 1, 0, none⟩ = some (.int .i64 0) := cell_of_row _ _ _ _ _ _ S1.out
        have S1_1 : V20.cell? ⟨w.heap.size + 1, 1, none⟩ = some (.int .i64 0) := cell_of_row _ _ _ _ _ _ S1.out
        have S1_2 : V20.cell? ⟨w.heap.size + 1, 2, none⟩ = some (.int .i64 0) := cell_of_row _ _ _ _ _ _ S1.out
        have S1_3 : V20.cell? ⟨w.heap.size + 1, 3, none⟩ = some (.int .i64 d) := cell_of_row _ _ _ _ _ _ S1.out
        have zS1 := lt_of_heap S1.out
        go_wp2
        exact ⟨⟨Or.inr (Or.inr (Or.inl ⟨rfl, rfl, row_set1 S1.out 2 _⟩)), row_other1 (by omega) Z1.out 2 _, keep1 B20.out (by omega) 2 _⟩, by simp [intOf]⟩
    · have S1 := Lib.hid hS
      clear hS
      have cg : V20.cell? ⟨7, 1, none⟩ = some (.int .i64 60) := (hM.keep B20.out zg).cell 1 (by decide)
      have zV := B20.out.size
      clear hM
      obtain ⟨b1, b2, b3, b4, ⟨k1, k2, k3⟩ | ⟨k1, k2, k3⟩⟩ := K1
      · clear K3 K2 K0
        generalize hr : (X1 : Int).tmod 60 = t at *
        generalize hq : (X1 : Int).tdiv 60 = u at *
        
        have Z1_f0 : V20.frozen? ⟨w.heap.size, 0, none⟩ = false := by simp [World.frozen?, Z1.out]
        have Z1_f1 : V20.frozen? ⟨w.heap.size, 1, none⟩ = false := by simp [World.frozen?, Z1.out]
        have Z1_f2 : V20.frozen? ⟨w.heap.size, 2, none⟩ = false := by simp [World.frozen?, Z1.out]
        have Z1_f3 : V20.frozen? ⟨w.heap.size, 3, none⟩ = false := by simp [World.frozen?, Z1.out]
        have Z1_0 : V20.cell? ⟨w.heap.size, 0, none⟩ = some (.int .i64 0) := cell_of_row _ _ _ _ _ _ Z1.out
        have Z1_1 : V20.cell? ⟨w.heap.size, 1, none⟩ = some (.int .i64 0) := cell_of_row _ _ _ _ _ _ Z1.out
        have Z1_2 : V20.cell? ⟨w.heap.size, 2, none⟩ = some (.int .i64 0) := cell_of_row _ _ _ _ _ _ Z1.out
        have Z1_3 : V20.cell? ⟨w.heap.size, 3, none⟩ = some (.int .i64 0) := cell_of_row _ _ _ _ _ _ Z1.out
        have zZ1 := lt_of_heap Z1.out
        have S1_f0 : V20.frozen? ⟨w.heap.size + 1, 0, none⟩ = false := by simp [World.frozen?, S1.out]
        have S1_f1 : V20.frozen? ⟨w.heap.size + 1, 1, none⟩ = false := by simp [World.frozen?, S1.out]
        have S1_f2 : V20.frozen? ⟨w.heap.size + 1, 2, none⟩ = false := by simp [World.frozen?, S1.out]
        have S1_f3 : V20.frozen? ⟨w.heap.size + 1, 3, none⟩ = false := by simp [World.frozen?, S1.out]
        have S1_0 : V20.cell? ⟨w.heap.size + 1, 0, none⟩ = some (.int .i64 0) := cell_of_row _ _ _ _ _ _ S1.out
        have S1_1 : V20.cell? ⟨w.heap.size + 1, 1, none⟩ = some (.int .i64 0) := cell_of_row _ _ _ _ _ _ S1.out
        have S1_2 : V20.cell? ⟨w.heap.size + 1, 2, none⟩ = some (.int .i64 c) := cell_of_row _ _ _ _ _ _ S1.out
        have S1_3 : V20.cell? ⟨w.heap.size + 1, 3, none⟩ = some (.int .i64 d) := cell_of_row _ _ _ _ _ _ S1.out
        have zS1 := lt_of_heap S1.out
        go_wp2
        go_region
        go_wp2
        exact ⟨⟨Or.inr (Or.inr (Or.inr (Or.inl ⟨rfl, rfl, row_set1 (row_set1 S1.out 1 _) 1 _⟩))), row_other1 (by omega) (row_other1 (by omega) Z1.out 1 _) 1 _, (keep1 (keep1 B20.out (by omega) 1 _) (by omega) 1 _).drew⟩, by simp [intOf]⟩
      · clear K3 K2 K0
        generalize hr : (X1 : Int).tmod 60 = t at *
        generalize hq : (X1 : Int).tdiv 60 = u at *
        subst k2
        subst k3
        
        have Z1_f0 : V20.frozen? ⟨w.heap.size, 0, none⟩ = false := by simp [World.frozen?, Z1.out]
        have Z1_f1 : V20.frozen? ⟨w.heap.size, 1, none⟩ = false := by simp [World.frozen?, Z1.out]
        have Z1_f2 : V20.frozen? ⟨w.heap.size, 2, none⟩ = false := by simp [World.frozen?, Z1.out]
        have Z1_f3 : V20.frozen? ⟨w.heap.size, 3, none⟩ = false := by simp [World.frozen?, Z1.out]
        have Z1_0 : V20.cell? ⟨w.heap.size, 0, none⟩ = some (.int .i64 0) := cell_of_row _ _ _ _ _ _ Z1.out
        have Z1_1 : V20.cell? ⟨w.heap.size, 1, none⟩ = some (.int .i64 0) := cell_of_row _ _ _ _ _ _ Z1.out
        have Z1_2 : V20.cell? ⟨w.heap.size, 2, none⟩ = some (.int .i64 0) := cell_of_row _ _ _ _ _ _ Z1.out
        have Z1_3 : V20.cell? ⟨w.heap.size, 3, none⟩ = some (.int .i64 0) := cell_of_row _ _ _ _ _ _ Z1.out
        have zZ1 := lt_of_heap Z1.out
        have S1_f0 : V20.frozen? ⟨w.heap.size + 1, 0, none⟩ = false := by simp [World.frozen?, S1.out]
        have S1_f1 : V20.frozen? ⟨w.heap.size + 1, 1, none⟩ = false := by simp [World.frozen?, S1.out]
        have S1_f2 : V20.frozen? ⟨w.heap.size + 1, 2, none⟩ = false := by simp [World.frozen?, S1.out]
        have S1_f3 : V20.frozen? ⟨w.heap.size + 1, 3, none⟩ = false := by simp [World.frozen?, S1.out]
        have S1_0 : V20.cell? ⟨w.heap.size + 1, 0, none⟩ = some (.int .i64 0) := cell_of_row _ _ _ _ _ _ S1.out
        have S1_1 : V20.cell? ⟨w.heap.size + 1, 1, none⟩ = some (.int .i64 0) := cell_of_row _ _ _ _ _ _ S1.out
        have S1_2 : V20.cell? ⟨w.heap.size + 1, 2, none⟩ = some (.int .i64 c) := cell_of_row _ _ _ _ _ _ S1.out
        have S1_3 : V20.cell? ⟨w.heap.size + 1, 3, none⟩ = some (.int .i64 d) := cell_of_row _ _ _ _ _ _ S1.out
        have zS1 := lt_of_heap S1.out
        go_wp2
        exact ⟨⟨Or.inr (Or.inr (Or.inr (Or.inl ⟨rfl, rfl, row_set1 S1.out 1 _⟩))), row_other1 (by omega) Z1.out 1 _, keep1 B20.out (by omega) 1 _⟩, by simp [intOf]⟩
    · have S1 := Lib.hid hS
      clear hS
      have cg : V20.cell? ⟨7, 0, none⟩ = some (.int .i64 24) := (hM.keep B20.out zg).cell 0 (by decide)
      have zV := B20.out.size
      clear hM
      obtain ⟨b1, b2, b3, b4, ⟨k1, k2, k3⟩ | ⟨k1, k2, k3⟩⟩ := K0
      · clear K3 K2 K1
        generalize hr : (X0 : Int).tmod 24 = t at *
        generalize hq : (X0 : Int).tdiv 24 = u at *
        
        have Z1_f0 : V20.frozen? ⟨w.heap.size, 0, none⟩ = false := by simp [World.frozen?, Z1.out]
        have Z1_f1 : V20.frozen? ⟨w.heap.size, 1, none⟩ = false := by simp [World.frozen?, Z1.out]
        have Z1_f2 : V20.frozen? ⟨w.heap.size, 2, none⟩ = false := by simp [World.frozen?, Z1.out]
        have Z1_f3 : V20.frozen? ⟨w.heap.size, 3, none⟩ = false := by simp [World.frozen?, Z1.out]
        have Z1_0 : V20.cell? ⟨w.heap.size, 0, none⟩ = some (.int .i64 0) := cell_of_row _ _ _ _ _ _ Z1.out
        have Z1_1 : V20.cell? ⟨w.heap.size, 1, none⟩ = some (.int .i64 0) := cell_of_row _ _ _ _ _ _ Z1.out
        have Z1_2 : V20.cell? ⟨w.heap.size, 2, none⟩ = some (.int .i64 0) := cell_of_row _ _ _ _ _ _ Z1.out
        have Z1_3 : V20.cell? ⟨w.heap.size, 3, none⟩ = some (.int .i64 0) := cell_of_row _ _ _ _ _ _ Z1.out
        have zZ1 := lt_of_heap Z1.out
        have S1_f0 : V20.frozen? ⟨w.heap.size + 1, 0, none⟩ = false := by simp [World.frozen?, S1.out]
        have S1_f1 : V20.frozen? ⟨w.heap.size + 1, 1, none⟩ = false := by simp [World.frozen?, S1.out]
        have S1_f2 : V20.frozen? ⟨w.heap.size + 1, 2, none⟩ = false := by simp [World.frozen?, S1.out]
        have S1_f3 : V20.frozen? ⟨w.heap.size + 1, 3, none⟩ = false := by simp [World.frozen?, S1.out]
        have S1_0 : V20.cell? ⟨w.heap.size + 1, 0, none⟩ = some (.int .i64 0) := cell_of_row _ _ _ _ _ _ S1.out
        have S1_1 : V20.cell? ⟨w.heap.size + 1, 1, none⟩ = some (.int .i64 b) := cell_of_row _ _ _ _ _ _ S1.out
        have S1_2 : V20.cell? ⟨w.heap.size + 1, 2, none⟩ = some (.int .i64 c) := cell_of_row _ _ _ _ _ _ S1.out
        have S1_3 : V20.cell? ⟨w.heap.size + 1, 3, none⟩ = some (.int .i64 d) := cell_of_row _ _ _ _ _ _ S1.out
        have zS1 := lt_of_heap S1.out
        go_wp2
        go_region
        go_wp2
        exact ⟨⟨Or.inr (Or.inr (Or.inr (Or.inr ⟨rfl, rfl, row_set1 (row_set1 S1.out 0 _) 0 _⟩))), row_other1 (by omega) (row_other1 (by omega) Z1.out 0 _) 0 _, (keep1 (keep1 B20.out (by omega) 0 _) (by omega) 0 _).drew⟩, by simp [intOf]⟩
      · clear K3 K2 K1
        generalize hr : (X0 : Int).tmod 24 = t at *
        generalize hq : (X0 : Int).tdiv 24 = u at *
        subst k2
        subst k3
        
        have Z1_f0 : V20.frozen? ⟨w.heap.size, 0, none⟩ = false := by simp [World.frozen?, Z1.out]
        have Z1_f1 : V20.frozen? ⟨w.heap.size, 1, none⟩ = false := by simp [World.frozen?, Z1.out]
        have Z1_f2 : V20.frozen? ⟨w.heap.size, 2, none⟩ = false := by simp [World.frozen?, Z1.out]
        have Z1_f3 : V20.frozen? ⟨w.heap.size, 3, none⟩ = false := by simp [World.frozen?, Z1.out]
        have Z1_0 : V20.cell? ⟨w.heap.size, 0, none⟩ = some (.int .i64 0) := cell_of_row _ _ _ _ _ _ Z1.out
        have Z1_1 : V20.cell? ⟨w.heap.size, 1, none⟩ = some (.int .i64 0) := cell_of_row _ _ _ _ _ _ Z1.out
        have Z1_2 : V20.cell? ⟨w.heap.size, 2, none⟩ = some (.int .i64 0) := cell_of_row _ _ _ _ _ _ Z1.out
        have Z1_3 : V20.cell? ⟨w.heap.size, 3, none⟩ = some (.int .i64 0) := cell_of_row _ _ _ _ _ _ Z1.out
        have zZ1 := lt_of_heap Z1.out
        have S1_f0 : V20.frozen? ⟨w.heap.size + 1, 0, none⟩ = false := by simp [World.frozen?, S1.out]
        have S1_f1 : V20.frozen? ⟨w.heap.size + 1, 1, none⟩ = false := by simp [World.frozen?, S1.out]
        have S1_f2 : V20.frozen? ⟨w.heap.size + 1, 2, none⟩ = false := by simp [World.frozen?, S1.out]
        have S1_f3 : V20.frozen? ⟨w.heap.size + 1, 3, none⟩ = false := by simp [World.frozen?, S1.out]
        have S1_0 : V20.cell? ⟨w.heap.size + 1, 0, none⟩ = some (.int .i64 0) := cell_of_row _ _ _ _ _ _ S1.out
        have S1_1 : V20.cell? ⟨w.heap.size + 1, 1, none⟩ = some (.int .i64 b) := cell_of_row _ _ _ _ _ _ S1.out
        have S1_2 : V20.cell? ⟨w.heap.size + 1, 2, none⟩ = some (.int .i64 c) := cell_of_row _ _ _ _ _ _ S1.out
        have S1_3 : V20.cell? ⟨w.heap.size + 1, 3, none⟩ = some (.int .i64 d) := cell_of_row _ _ _ _ _ _ S1.out
        have zS1 := lt_of_heap S1.out
        go_wp2
        exact ⟨⟨Or.inr (Or.inr (Or.inr (Or.inr ⟨rfl, rfl, row_set1 S1.out 0 _⟩))), row_other1 (by omega) Z1.out 0 _, keep1 B20.out (by omega) 0 _⟩, by simp [intOf]⟩
    · have S1 := Lib.hid hS
      clear hS hM K0 K1 K2 K3
      have zV := B20.out.size
      
      have Z1_f0 : V20.frozen? ⟨w.heap.size, 0, none⟩ = false := by simp [World.frozen?, Z1.out]
      have Z1_f1 : V20.frozen? ⟨w.heap.size, 1, none⟩ = false := by simp [World.frozen?, Z1.out]
      have Z1_f2 : V20.frozen? ⟨w.heap.size, 2, none⟩ = false := by simp [World.frozen?, Z1.out]
      have Z1_f3 : V20.frozen? ⟨w.heap.size, 3, none⟩ = false := by simp [World.frozen?, Z1.out]
      have Z1_0 : V20.cell? ⟨w.heap.size, 0, none⟩ = some (.int .i64 0) := cell_of_row _ _ _ _ _ _ Z1.out
      have Z1_1 : V20.cell? ⟨w.heap.size, 1, none⟩ = some (.int .i64 0) := cell_of_row _ _ _ _ _ _ Z1.out
      have Z1_2 : V20.cell? ⟨w.heap.size, 2, none⟩ = some (.int .i64 0) := cell_of_row _ _ _ _ _ _ Z1.out
      have Z1_3 : V20.cell? ⟨w.heap.size, 3, none⟩ = some (.int .i64 0) := cell_of_row _ _ _ _ _ _ Z1.out
      have zZ1 := lt_of_heap Z1.out
      have S1_f0 : V20.frozen? ⟨w.heap.size + 1, 0, none⟩ = false := by simp [World.frozen?, S1.out]
      have S1_f1 : V20.frozen? ⟨w.heap.size + 1, 1, none⟩ = false := by simp [World.frozen?, S1.out]
      have S1_f2 : V20.frozen? ⟨w.heap.size + 1, 2, none⟩ = false := by simp [World.frozen?, S1.out]
      have S1_f3 : V20.frozen? ⟨w.heap.size + 1, 3, none⟩ = false := by simp [World.frozen?, S1.out]
      have S1_0 : V20.cell? ⟨w.heap.size + 1, 0, none⟩ = some (.int .i64 a) := cell_of_row _ _ _ _ _ _ S1.out
      have S1_1 : V20.cell? ⟨w.heap.size + 1, 1, none⟩ = some (.int .i64 b) := cell_of_row _ _ _ _ _ _ S1.out
      have S1_2 : V20.cell? ⟨w.heap.size + 1, 2, none⟩ = some (.int .i64 c) := cell_of_row _ _ _ _ _ _ S1.out
      have S1_3 : V20.cell? ⟨w.heap.size + 1, 3, none⟩ = some (.int .i64 d) := cell_of_row _ _ _ _ _ _ S1.out
      have zS1 := lt_of_heap S1.out
      go_wp2
      go_region
      go_wp2
      refine shut_ret (v := .tuple #[.int .i64 D, .agg #[.int .i64 a, .int .i64 b, .int .i64 c, .int .i64 d]]) (by simp [results, Tryz.results131, go_sem, zZ1, Z1_0, Z1_1, Z1_2, Z1_3]) rfl ⟨rfl, ?_⟩
      exact (keep4 B20.out (by omega) _ _ _ _).drew
end Go.Proofs.YteinjdmkmfeniaaGreatDoor
namespace Go.Proofs.YteinjdmkmfeniaaGreatDoor
set_option linter.unusedVariables false
set_option linter.unusedSimpArgs false
open Go.ChangeShapes Go.WideShapes Go.ChangeAt Go.RowKit
def aD (n : Int) : Int := n / 1000000000 / 60 / 60 / 24
def aH (n : Int) : Int := n / 1000000000 / 60 / 60 % 24
def aM (n : Int) : Int := n / 1000000000 / 60 % 60
theorem pApart_any (n : Int) (b : in64 n) (w : World) (hM : SZ w) : Calls Tryz.prog 131 #[.int .i64 n] w fun e w' => e = .returned (.tuple #[.int .i64 (aD n), .agg #[.int .i64 (aH n), .int .i64 (aM n), .int .i64 (kS n), .int .i64 (kN n)]]) ∧ Below w.heap.size w w' :=
  apart_of n _ _ _ _ _ _ _ _ w hM (stg_any n 1000000000 b (by decide) (by decide)) (stg_any (n / 1000000000) 60 (by unfold in64 at *; omega) (by decide) (by decide))
    (stg_any (n / 1000000000 / 60) 60 (by unfold in64 at *; omega) (by decide) (by decide)) (stg_any (n / 1000000000 / 60 / 60) 24 (by unfold in64 at *; omega) (by decide) (by decide))
set_option maxHeartbeats 1600000 in
set_option maxRecDepth 100000 in
theorem pPartsOf_any (a b c d : Int) (w : World) : Calls Tryz.prog 128 #[.agg #[.int .i64 a, .int .i64 b, .int .i64 c, .int .i64 d]] w fun e w' => e = .returned (.agg #[.int .i64 a, .int .i64 b, .int .i64 c, .int .i64 d]) ∧ Below w.heap.size w w' := by
  go_enter Tryz.func128, Tryz.ntmps128
  refine wp_shut ?_
  go_wp2
  refine shut_ret (v := .agg #[.int .i64 a, .int .i64 b, .int .i64 c, .int .i64 d]) (by simp [results, Tryz.results128, go_sem]) rfl ⟨rfl, ?_⟩
  go_grown
theorem eq4_parts (a b c d a2 b2 c2 d2 : Int) (w : World) : (Op.equalIn 10000 159 (.agg #[.int .i64 a, .int .i64 b, .int .i64 c, .int .i64 d]) (.agg #[.int .i64 a2, .int .i64 b2, .int .i64 c2, .int .i64 d2])).run Tryz.prog w = .ok (a == a2 && b == b2 && c == c2 && d == d2) w := by
  have u3 := Tryz.underlying3
  have a3 := Tryz.isAgg3
  have z3 := Tryz.sizeOf3
  rw [show (10000 : Nat) = 9999 + 1 from rfl, Op.equalIn]
  simp only [Sem.run_bind, run_underlying Tryz.underlying159, Result.andThen_ok]
  simp only [Std.Legacy.Range.forIn_eq_forIn_range', Std.Legacy.Range.size, Nat.sub_zero, Nat.add_sub_cancel, Nat.div_one, List.range'_succ, List.range'_zero, List.forIn_cons, List.forIn_nil]
  go_simp
  by_cases h1 : a = a2 <;> by_cases h2 : b = b2 <;> by_cases h3 : c = c2 <;> by_cases h4 : d = d2 <;> simp [h1, h2, h3, h4]
theorem tg_in (h m s n : Int) : in64 (tgK h m s n) := by unfold tgK in64; rw [IntKind.wrap_i64]; omega
theorem tg_ok {h m s n : Int} (k : okK h m s n) : tgK h m s n = scK h m s * 1000000000 + n := by
  unfold okK at k
  unfold tgK scK
  rw [IntKind.wrap_i64]; omega
theorem tg_back {h m s n : Int} (k : okK h m s n) : aH (tgK h m s n) = h ∧ aM (tgK h m s n) = m ∧ kS (tgK h m s n) = s ∧ kN (tgK h m s n) = n ∧ aD (tgK h m s n) = 0 := by
  rw [tg_ok k]
  unfold okK at k
  have e : (scK h m s * 1000000000 + n) / 1000000000 = 3600 * h + 60 * m + s := by unfold scK; omega
  unfold aH aM kS kN aD
  rw [e]
  exact ⟨by omega, by omega, by omega, by omega, by omega⟩
theorem part_ok (n : Int) : okK (aH n) (aM n) (kS n) (kN n) := by unfold okK aH aM kS kN; omega
set_option maxHeartbeats 3200000 in
set_option maxRecDepth 100000 in
theorem pkCheck_any (h m s n : Int) (w : World) (hM : SZ w) : Calls Tryz.prog 123 #[.agg #[.int .i64 h, .int .i64 m, .int .i64 s, .int .i64 n]] w fun e w' => e = .returned (.int .i64 (ckK h m s n)) ∧ Below w.heap.size w w' := by
  have H1 := Lib.hid (pPartsOf_any h m s n)
  have H2 := Lib.hid (pTog_any h m s n)
  have X3 := pApart_any (tgK h m s n) (tg_in h m s n)
  have po := part_ok (tgK h m s n)
  by_cases k : okK h m s n
  · obtain ⟨e1, e2, e3, e4, e5⟩ := tg_back k
    rw [e1, e2, e3, e4, e5] at X3
    have H3 := Lib.hid X3
    have E := Lib.hid (ckK_ok k)
    clear X3 po k e1 e2 e3 e4 e5
    generalize tgK h m s n = T at *
    have heq : ∀ w, (Op.equalIn 10000 159 (.agg #[.int .i64 h, .int .i64 m, .int .i64 s, .int .i64 n]) (.agg #[.int .i64 h, .int .i64 m, .int .i64 s, .int .i64 n])).run Tryz.prog w = .ok true w := fun w => (eq4_parts h m s n h m s n w).trans (by simp)
    replace hM := Lib.hid hM
    go_enter Tryz.func123, Tryz.ntmps123
    go_wp2_with fail
    
    refine (H1.out _).mono ?_
    rintro e V1 ⟨rfl, hb1⟩
    have B1 := Lib.hid (((Below.refl w.heap.size w).alloc (Nat.le_refl _) _).trans (hb1.mono (by first | assumption | (simp <;> omega) | (simp; done))))
    have A1 := Lib.hid (row_call hb1 (heap_alloc_new _ _))
    clear hb1
    have A1_0 : V1.cell? ⟨w.heap.size, 0, none⟩ = some (.int .i64 h) := cell_of_row _ _ _ _ _ _ A1.out
    have A1_1 : V1.cell? ⟨w.heap.size, 1, none⟩ = some (.int .i64 m) := cell_of_row _ _ _ _ _ _ A1.out
    have A1_2 : V1.cell? ⟨w.heap.size, 2, none⟩ = some (.int .i64 s) := cell_of_row _ _ _ _ _ _ A1.out
    have A1_3 : V1.cell? ⟨w.heap.size, 3, none⟩ = some (.int .i64 n) := cell_of_row _ _ _ _ _ _ A1.out
    have zA1 := lt_of_heap A1.out
    go_simp
    go_wp2_with fail
    refine (H2.out _ (by first | exact sz_keep hM ((B1.out).alloc (B1.out.size) _))).mono ?_
    rintro e V2 ⟨rfl, hb2⟩
    clear A1_0 A1_1 A1_2 A1_3 zA1
    have nA1O1 := Lib.hid (lt_of_heap A1.out)
    have B2 := Lib.hid (((B1.out).alloc (B1.out.size) _).trans (hb2.mono (by have := B1.out.size; first | assumption | (simp <;> omega) | (simp; done))))
    replace A1 := Lib.hid (row_call hb2 (row_alloc A1.out _))
    have O1 := Lib.hid (row_call hb2 (heap_alloc_new _ _))
    clear hb2
    have A1_0 : V2.cell? ⟨w.heap.size, 0, none⟩ = some (.int .i64 h) := cell_of_row _ _ _ _ _ _ A1.out
    have A1_1 : V2.cell? ⟨w.heap.size, 1, none⟩ = some (.int .i64 m) := cell_of_row _ _ _ _ _ _ A1.out
    have A1_2 : V2.cell? ⟨w.heap.size, 2, none⟩ = some (.int .i64 s) := cell_of_row _ _ _ _ _ _ A1.out
    have A1_3 : V2.cell? ⟨w.heap.size, 3, none⟩ = some (.int .i64 n) := cell_of_row _ _ _ _ _ _ A1.out
    have O1_0 : V2.cell? ⟨V1.heap.size, 0, none⟩ = some (.int .i64 h) := cell_of_row _ _ _ _ _ _ O1.out
    have O1_1 : V2.cell? ⟨V1.heap.size, 1, none⟩ = some (.int .i64 m) := cell_of_row _ _ _ _ _ _ O1.out
    have O1_2 : V2.cell? ⟨V1.heap.size, 2, none⟩ = some (.int .i64 s) := cell_of_row _ _ _ _ _ _ O1.out
    have O1_3 : V2.cell? ⟨V1.heap.size, 3, none⟩ = some (.int .i64 n) := cell_of_row _ _ _ _ _ _ O1.out
    have zA1 := lt_of_heap A1.out
    have zO1 := lt_of_heap O1.out
    go_simp
    go_wp2_with fail
    refine (H3.out _ (by first | exact sz_keep hM (B2.out) | exact sz_keep hM ((B2.out).alloc (B2.out.size) _) | exact sz_keep hM (((B2.out).alloc (B2.out.size) _).alloc (by have := B2.out.size; simp <;> omega) _) | exact sz_keep hM ((((B2.out).alloc (B2.out.size) _).alloc (by have := B2.out.size; simp <;> omega) _).alloc (by have := B2.out.size; simp <;> omega) _))).mono ?_
    rintro e V3 ⟨rfl, hb3⟩
    clear A1_0 A1_1 A1_2 A1_3 zA1 O1_0 O1_1 O1_2 O1_3 zO1
    have B3 : Hid (Below w.heap.size w V3) := by first | exact Lib.hid ((B2.out).trans (hb3.mono (by have := B2.out.size; first | assumption | (simp <;> omega) | (simp; done)))) | exact Lib.hid (((B2.out).alloc (B2.out.size) _).trans (hb3.mono (by have := B2.out.size; first | assumption | (simp <;> omega) | (simp; done)))) | exact Lib.hid ((((B2.out).alloc (B2.out.size) _).alloc (by have := B2.out.size; simp <;> omega) _).trans (hb3.mono (by have := B2.out.size; first | assumption | (simp <;> omega) | (simp; done)))) | exact Lib.hid (((((B2.out).alloc (B2.out.size) _).alloc (by have := B2.out.size; simp <;> omega) _).alloc (by have := B2.out.size; simp <;> omega) _).trans (hb3.mono (by have := B2.out.size; first | assumption | (simp <;> omega) | (simp; done))))
    first | replace A1 := Lib.hid (row_call hb3 A1.out) | replace A1 := Lib.hid (row_call hb3 (row_alloc A1.out _)) | replace A1 := Lib.hid (row_call hb3 (row_alloc (row_alloc A1.out _) _)) | replace A1 := Lib.hid (row_call hb3 (row_alloc (row_alloc (row_alloc A1.out _) _) _))
    first | replace O1 := Lib.hid (row_call hb3 O1.out) | replace O1 := Lib.hid (row_call hb3 (row_alloc O1.out _)) | replace O1 := Lib.hid (row_call hb3 (row_alloc (row_alloc O1.out _) _)) | replace O1 := Lib.hid (row_call hb3 (row_alloc (row_alloc (row_alloc O1.out _) _) _))
    clear hb3
    have A1_0 : V3.cell? ⟨w.heap.size, 0, none⟩ = some (.int .i64 h) := cell_of_row _ _ _ _ _ _ A1.out
    have A1_1 : V3.cell? ⟨w.heap.size, 1, none⟩ = some (.int .i64 m) := cell_of_row _ _ _ _ _ _ A1.out
    have A1_2 : V3.cell? ⟨w.heap.size, 2, none⟩ = some (.int .i64 s) := cell_of_row _ _ _ _ _ _ A1.out
    have A1_3 : V3.cell? ⟨w.heap.size, 3, none⟩ = some (.int .i64 n) := cell_of_row _ _ _ _ _ _ A1.out
    have O1_0 : V3.cell? ⟨V1.heap.size, 0, none⟩ = some (.int .i64 h) := cell_of_row _ _ _ _ _ _ O1.out
    have O1_1 : V3.cell? ⟨V1.heap.size, 1, none⟩ = some (.int .i64 m) := cell_of_row _ _ _ _ _ _ O1.out
    have O1_2 : V3.cell? ⟨V1.heap.size, 2, none⟩ = some (.int .i64 s) := cell_of_row _ _ _ _ _ _ O1.out
    have O1_3 : V3.cell? ⟨V1.heap.size, 3, none⟩ = some (.int .i64 n) := cell_of_row _ _ _ _ _ _ O1.out
    have zA1 := lt_of_heap A1.out
    have zO1 := lt_of_heap O1.out
    go_simp
    go_wp2
    go_ret
    exact ⟨by rw [E.out]; try rfl, B3.out.alloc (by omega) _⟩
  · have hne : ¬ (h = aH (tgK h m s n) ∧ m = aM (tgK h m s n) ∧ s = kS (tgK h m s n) ∧ n = kN (tgK h m s n)) := by
      rintro ⟨e1, e2, e3, e4⟩
      rw [← e1, ← e2, ← e3, ← e4] at po
      exact k po
    have H3 := Lib.hid X3
    have E := Lib.hid (ckK_no k)
    clear X3 po k
    generalize aH (tgK h m s n) = a at *
    generalize aM (tgK h m s n) = b at *
    generalize kS (tgK h m s n) = c at *
    generalize kN (tgK h m s n) = d at *
    generalize aD (tgK h m s n) = D at *
    generalize tgK h m s n = T at *
    have heq : ∀ w, (Op.equalIn 10000 159 (.agg #[.int .i64 h, .int .i64 m, .int .i64 s, .int .i64 n]) (.agg #[.int .i64 a, .int .i64 b, .int .i64 c, .int .i64 d])).run Tryz.prog w = .ok false w := fun w => (eq4_parts h m s n a b c d w).trans (by
      congr 1
      rw [Bool.eq_false_iff]
      intro hh
      simp at hh
      exact hne ⟨hh.1.1.1, hh.1.1.2, hh.1.2, hh.2⟩)
    clear hne
    replace hM := Lib.hid hM
    go_enter Tryz.func123, Tryz.ntmps123
    go_wp2_with fail
    
    refine (H1.out _).mono ?_
    rintro e V1 ⟨rfl, hb1⟩
    have B1 := Lib.hid (((Below.refl w.heap.size w).alloc (Nat.le_refl _) _).trans (hb1.mono (by first | assumption | (simp <;> omega) | (simp; done))))
    have A1 := Lib.hid (row_call hb1 (heap_alloc_new _ _))
    clear hb1
    have A1_0 : V1.cell? ⟨w.heap.size, 0, none⟩ = some (.int .i64 h) := cell_of_row _ _ _ _ _ _ A1.out
    have A1_1 : V1.cell? ⟨w.heap.size, 1, none⟩ = some (.int .i64 m) := cell_of_row _ _ _ _ _ _ A1.out
    have A1_2 : V1.cell? ⟨w.heap.size, 2, none⟩ = some (.int .i64 s) := cell_of_row _ _ _ _ _ _ A1.out
    have A1_3 : V1.cell? ⟨w.heap.size, 3, none⟩ = some (.int .i64 n) := cell_of_row _ _ _ _ _ _ A1.out
    have zA1 := lt_of_heap A1.out
    go_simp
    go_wp2_with fail
    refine (H2.out _ (by first | exact sz_keep hM ((B1.out).alloc (B1.out.size) _))).mono ?_
    rintro e V2 ⟨rfl, hb2⟩
    clear A1_0 A1_1 A1_2 A1_3 zA1
    have nA1O1 := Lib.hid (lt_of_heap A1.out)
    have B2 := Lib.hid (((B1.out).alloc (B1.out.size) _).trans (hb2.mono (by have := B1.out.size; first | assumption | (simp <;> omega) | (simp; done))))
    replace A1 := Lib.hid (row_call hb2 (row_alloc A1.out _))
    have O1 := Lib.hid (row_call hb2 (heap_alloc_new _ _))
    clear hb2
    have A1_0 : V2.cell? ⟨w.heap.size, 0, none⟩ = some (.int .i64 h) := cell_of_row _ _ _ _ _ _ A1.out
    have A1_1 : V2.cell? ⟨w.heap.size, 1, none⟩ = some (.int .i64 m) := cell_of_row _ _ _ _ _ _ A1.out
    have A1_2 : V2.cell? ⟨w.heap.size, 2, none⟩ = some (.int .i64 s) := cell_of_row _ _ _ _ _ _ A1.out
    have A1_3 : V2.cell? ⟨w.heap.size, 3, none⟩ = some (.int .i64 n) := cell_of_row _ _ _ _ _ _ A1.out
    have O1_0 : V2.cell? ⟨V1.heap.size, 0, none⟩ = some (.int .i64 h) := cell_of_row _ _ _ _ _ _ O1.out
    have O1_1 : V2.cell? ⟨V1.heap.size, 1, none⟩ = some (.int .i64 m) := cell_of_row _ _ _ _ _ _ O1.out
    have O1_2 : V2.cell? ⟨V1.heap.size, 2, none⟩ = some (.int .i64 s) := cell_of_row _ _ _ _ _ _ O1.out
    have O1_3 : V2.cell? ⟨V1.heap.size, 3, none⟩ = some (.int .i64 n) := cell_of_row _ _ _ _ _ _ O1.out
    have zA1 := lt_of_heap A1.out
    have zO1 := lt_of_heap O1.out
    go_simp
    go_wp2_with fail
    refine (H3.out _ (by first | exact sz_keep hM (B2.out) | exact sz_keep hM ((B2.out).alloc (B2.out.size) _) | exact sz_keep hM (((B2.out).alloc (B2.out.size) _).alloc (by have := B2.out.size; simp <;> omega) _) | exact sz_keep hM ((((B2.out).alloc (B2.out.size) _).alloc (by have := B2.out.size; simp <;> omega) _).alloc (by have := B2.out.size; simp <;> omega) _))).mono ?_
    rintro e V3 ⟨rfl, hb3⟩
    clear A1_0 A1_1 A1_2 A1_3 zA1 O1_0 O1_1 O1_2 O1_3 zO1
    have B3 : Hid (Below w.heap.size w V3) := by first | exact Lib.hid ((B2.out).trans (hb3.mono (by have := B2.out.size; first | assumption | (simp <;> omega) | (simp; done)))) | exact Lib.hid (((B2.out).alloc (B2.out.size) _).trans (hb3.mono (by have := B2.out.size; first | assumption | (simp <;> omega) | (simp; done)))) | exact Lib.hid ((((B2.out).alloc (B2.out.size) _).alloc (by have := B2.out.size; simp <;> omega) _).trans (hb3.mono (by have := B2.out.size; first | assumption | (simp <;> omega) | (simp; done)))) | exact Lib.hid (((((B2.out).alloc (B2.out.size) _).alloc (by have := B2.out.size; simp <;> omega) _).alloc (by have := B2.out.size; simp <;> omega) _).trans (hb3.mono (by have := B2.out.size; first | assumption | (simp <;> omega) | (simp; done))))
    first | replace A1 := Lib.hid (row_call hb3 A1.out) | replace A1 := Lib.hid (row_call hb3 (row_alloc A1.out _)) | replace A1 := Lib.hid (row_call hb3 (row_alloc (row_alloc A1.out _) _)) | replace A1 := Lib.hid (row_call hb3 (row_alloc (row_alloc (row_alloc A1.out _) _) _))
    first | replace O1 := Lib.hid (row_call hb3 O1.out) | replace O1 := Lib.hid (row_call hb3 (row_alloc O1.out _)) | replace O1 := Lib.hid (row_call hb3 (row_alloc (row_alloc O1.out _) _)) | replace O1 := Lib.hid (row_call hb3 (row_alloc (row_alloc (row_alloc O1.out _) _) _))
    clear hb3
    have A1_0 : V3.cell? ⟨w.heap.size, 0, none⟩ = some (.int .i64 h) := cell_of_row _ _ _ _ _ _ A1.out
    have A1_1 : V3.cell? ⟨w.heap.size, 1, none⟩ = some (.int .i64 m) := cell_of_row _ _ _ _ _ _ A1.out
    have A1_2 : V3.cell? ⟨w.heap.size, 2, none⟩ = some (.int .i64 s) := cell_of_row _ _ _ _ _ _ A1.out
    have A1_3 : V3.cell? ⟨w.heap.size, 3, none⟩ = some (.int .i64 n) := cell_of_row _ _ _ _ _ _ A1.out
    have O1_0 : V3.cell? ⟨V1.heap.size, 0, none⟩ = some (.int .i64 h) := cell_of_row _ _ _ _ _ _ O1.out
    have O1_1 : V3.cell? ⟨V1.heap.size, 1, none⟩ = some (.int .i64 m) := cell_of_row _ _ _ _ _ _ O1.out
    have O1_2 : V3.cell? ⟨V1.heap.size, 2, none⟩ = some (.int .i64 s) := cell_of_row _ _ _ _ _ _ O1.out
    have O1_3 : V3.cell? ⟨V1.heap.size, 3, none⟩ = some (.int .i64 n) := cell_of_row _ _ _ _ _ _ O1.out
    have zA1 := lt_of_heap A1.out
    have zO1 := lt_of_heap O1.out
    go_simp
    go_wp2
    go_ret
    exact ⟨by rw [E.out]; try rfl, B3.out.alloc (by omega) _⟩
set_option maxHeartbeats 3200000 in
set_option maxRecDepth 100000 in
theorem pkNanos_any (h m s n : Int) (w : World) (hM : SZ w) : Calls Tryz.prog 114 #[.agg #[.int .i64 h, .int .i64 m, .int .i64 s, .int .i64 n]] w fun e w' => e = .returned (.tuple #[.int .i64 (nnK h m s n), .int .i64 (ckK h m s n)]) ∧ Below w.heap.size w w' := by
  have X1 := pkCheck_any h m s n
  by_cases hc : ckK h m s n = 0
  · have k := of_ckK hc
    rw [nnK_ok hc, ← tg_ok k]
    rw [hc] at X1 ⊢
    have H1 := Lib.hid X1
    have H2 := Lib.hid (pPartsOf_any h m s n)
    have H3 := Lib.hid (pTog_any h m s n)
    clear X1 hc k
    generalize tgK h m s n = T at *
    replace hM := Lib.hid hM
    go_enter Tryz.func114, Tryz.ntmps114
    go_wp2_with fail
    
    refine (H1.out _ (by first | exact sz_keep hM ((Below.refl w.heap.size w).alloc (Nat.le_refl _) _))).mono ?_
    rintro e V1 ⟨rfl, hb1⟩
    have B1 := Lib.hid (((Below.refl w.heap.size w).alloc (Nat.le_refl _) _).trans (hb1.mono (by first | assumption | (simp <;> omega) | (simp; done))))
    have A1 := Lib.hid (row_call hb1 (heap_alloc_new _ _))
    clear hb1
    have A1_0 : V1.cell? ⟨w.heap.size, 0, none⟩ = some (.int .i64 h) := cell_of_row _ _ _ _ _ _ A1.out
    have A1_1 : V1.cell? ⟨w.heap.size, 1, none⟩ = some (.int .i64 m) := cell_of_row _ _ _ _ _ _ A1.out
    have A1_2 : V1.cell? ⟨w.heap.size, 2, none⟩ = some (.int .i64 s) := cell_of_row _ _ _ _ _ _ A1.out
    have A1_3 : V1.cell? ⟨w.heap.size, 3, none⟩ = some (.int .i64 n) := cell_of_row _ _ _ _ _ _ A1.out
    have zA1 := lt_of_heap A1.out
    go_simp
    go_wp2_with fail
    refine (H2.out _).mono ?_
    rintro e V2 ⟨rfl, hb2⟩
    clear A1_0 A1_1 A1_2 A1_3 zA1
    have B2 : Hid (Below w.heap.size w V2) := by first | exact Lib.hid ((B1.out).trans (hb2.mono (by have := B1.out.size; first | assumption | (simp <;> omega) | (simp; done)))) | exact Lib.hid (((B1.out).alloc (B1.out.size) _).trans (hb2.mono (by have := B1.out.size; first | assumption | (simp <;> omega) | (simp; done)))) | exact Lib.hid ((((B1.out).alloc (B1.out.size) _).alloc (by have := B1.out.size; simp <;> omega) _).trans (hb2.mono (by have := B1.out.size; first | assumption | (simp <;> omega) | (simp; done)))) | exact Lib.hid (((((B1.out).alloc (B1.out.size) _).alloc (by have := B1.out.size; simp <;> omega) _).alloc (by have := B1.out.size; simp <;> omega) _).trans (hb2.mono (by have := B1.out.size; first | assumption | (simp <;> omega) | (simp; done))))
    first | replace A1 := Lib.hid (row_call hb2 A1.out) | replace A1 := Lib.hid (row_call hb2 (row_alloc A1.out _)) | replace A1 := Lib.hid (row_call hb2 (row_alloc (row_alloc A1.out _) _)) | replace A1 := Lib.hid (row_call hb2 (row_alloc (row_alloc (row_alloc A1.out _) _) _))
    clear hb2
    have A1_0 : V2.cell? ⟨w.heap.size, 0, none⟩ = some (.int .i64 h) := cell_of_row _ _ _ _ _ _ A1.out
    have A1_1 : V2.cell? ⟨w.heap.size, 1, none⟩ = some (.int .i64 m) := cell_of_row _ _ _ _ _ _ A1.out
    have A1_2 : V2.cell? ⟨w.heap.size, 2, none⟩ = some (.int .i64 s) := cell_of_row _ _ _ _ _ _ A1.out
    have A1_3 : V2.cell? ⟨w.heap.size, 3, none⟩ = some (.int .i64 n) := cell_of_row _ _ _ _ _ _ A1.out
    have zA1 := lt_of_heap A1.out
    go_simp
    go_wp2_with fail
    refine (H3.out _ (by first | exact sz_keep hM (B2.out) | exact sz_keep hM ((B2.out).alloc (B2.out.size) _) | exact sz_keep hM (((B2.out).alloc (B2.out.size) _).alloc (by have := B2.out.size; simp <;> omega) _) | exact sz_keep hM ((((B2.out).alloc (B2.out.size) _).alloc (by have := B2.out.size; simp <;> omega) _).alloc (by have := B2.out.size; simp <;> omega) _))).mono ?_
    rintro e V3 ⟨rfl, hb3⟩
    clear A1_0 A1_1 A1_2 A1_3 zA1
    have B3 : Hid (Below w.heap.size w V3) := by first | exact Lib.hid ((B2.out).trans (hb3.mono (by have := B2.out.size; first | assumption | (simp <;> omega) | (simp; done)))) | exact Lib.hid (((B2.out).alloc (B2.out.size) _).trans (hb3.mono (by have := B2.out.size; first | assumption | (simp <;> omega) | (simp; done)))) | exact Lib.hid ((((B2.out).alloc (B2.out.size) _).alloc (by have := B2.out.size; simp <;> omega) _).trans (hb3.mono (by have := B2.out.size; first | assumption | (simp <;> omega) | (simp; done)))) | exact Lib.hid (((((B2.out).alloc (B2.out.size) _).alloc (by have := B2.out.size; simp <;> omega) _).alloc (by have := B2.out.size; simp <;> omega) _).trans (hb3.mono (by have := B2.out.size; first | assumption | (simp <;> omega) | (simp; done))))
    first | replace A1 := Lib.hid (row_call hb3 A1.out) | replace A1 := Lib.hid (row_call hb3 (row_alloc A1.out _)) | replace A1 := Lib.hid (row_call hb3 (row_alloc (row_alloc A1.out _) _)) | replace A1 := Lib.hid (row_call hb3 (row_alloc (row_alloc (row_alloc A1.out _) _) _))
    clear hb3
    have A1_0 : V3.cell? ⟨w.heap.size, 0, none⟩ = some (.int .i64 h) := cell_of_row _ _ _ _ _ _ A1.out
    have A1_1 : V3.cell? ⟨w.heap.size, 1, none⟩ = some (.int .i64 m) := cell_of_row _ _ _ _ _ _ A1.out
    have A1_2 : V3.cell? ⟨w.heap.size, 2, none⟩ = some (.int .i64 s) := cell_of_row _ _ _ _ _ _ A1.out
    have A1_3 : V3.cell? ⟨w.heap.size, 3, none⟩ = some (.int .i64 n) := cell_of_row _ _ _ _ _ _ A1.out
    have zA1 := lt_of_heap A1.out
    go_simp
    go_wp2
    go_ret2
    exact ⟨rfl, B3.out⟩
  · rw [nnK_no hc]
    have H1 := Lib.hid X1
    clear X1
    generalize ckK h m s n = E at *
    have f1 : (E != 0) = true := by rw [bne_iff_ne]; exact hc
    replace hM := Lib.hid hM
    go_enter Tryz.func114, Tryz.ntmps114
    go_wp2_with fail
    
    refine (H1.out _ (by first | exact sz_keep hM ((Below.refl w.heap.size w).alloc (Nat.le_refl _) _))).mono ?_
    rintro e V1 ⟨rfl, hb1⟩
    have B1 := Lib.hid (((Below.refl w.heap.size w).alloc (Nat.le_refl _) _).trans (hb1.mono (by first | assumption | (simp <;> omega) | (simp; done))))
    have A1 := Lib.hid (row_call hb1 (heap_alloc_new _ _))
    clear hb1
    have A1_0 : V1.cell? ⟨w.heap.size, 0, none⟩ = some (.int .i64 h) := cell_of_row _ _ _ _ _ _ A1.out
    have A1_1 : V1.cell? ⟨w.heap.size, 1, none⟩ = some (.int .i64 m) := cell_of_row _ _ _ _ _ _ A1.out
    have A1_2 : V1.cell? ⟨w.heap.size, 2, none⟩ = some (.int .i64 s) := cell_of_row _ _ _ _ _ _ A1.out
    have A1_3 : V1.cell? ⟨w.heap.size, 3, none⟩ = some (.int .i64 n) := cell_of_row _ _ _ _ _ _ A1.out
    have zA1 := lt_of_heap A1.out
    go_simp
    go_wp2
    go_ret2
    exact ⟨rfl, B1.out⟩
end Go.Proofs.YteinjdmkmfeniaaGreatDoor
namespace Go.Proofs.YteinjdmkmfeniaaGreatDoor
set_option linter.unusedVariables false
open Go.ChangeShapes Go.WideShapes Go.ChangeAt Go.RowKit
theorem gSZ : Tryz.prog.globalNamed "analemma/clock.sizes" = some 7 := by kernel_rfl
theorem tSZ : (Tryz.prog.globals[7]?).map (·.type) = some 158 := by kernel_rfl
theorem cSZ : Tryz.prog.cellsOf 158 = 4 := by kernel_rfl
theorem cIntZ : Tryz.prog.cellsOf 3 = 1 := by kernel_rfl
end Go.Proofs.YteinjdmkmfeniaaGreatDoor
