/- Package clock: the table of the parts' sizes; parts together and apart. -/
import Derived.Test.YtpkbcnofieinaaaDoorClkB
import Derived.Lib.LaidTab
namespace Go.Proofs.YtpkbcnofieinaaaDoor
set_option linter.unusedVariables false
set_option linter.unusedSimpArgs false
open Go.ChangeShapes Go.WideShapes Go.ChangeAt Go.RowKit

def szT : List Int := [24, 60, 60, 1000000000]
/-- the world holds the table of the parts' sizes. -/
structure SZ (w : World) : Prop where
  cell : ∀ i : Nat, i < 4 → w.cell? ⟨0, i, none⟩ = some (.int .i64 (szT.getD i 0))
  size : 0 < w.heap.size
theorem SZ.keep {w w' : World} {n : Nat} (h : SZ w) (hb : Below n w w') (hn : 0 < n) : SZ w' :=
  ⟨fun i hi => (hb.cell (p := ⟨0, i, none⟩) hn).trans (h.cell i hi), Nat.lt_of_lt_of_le h.size hb.size⟩
theorem sz_keep {w w' : World} (h : Hid (SZ w)) (hb : Below w.heap.size w w') : SZ w' := h.out.keep hb h.out.size
/-- a time's parts in nanoseconds, as an int. -/
@[irreducible] def tgK (h m s n : Int) : Int := IntKind.i64.wrap (((h * 60 + m) * 60 + s) * 1000000000 + n)
theorem wrap_in (a b c : Int) : IntKind.i64.wrap (IntKind.i64.wrap (IntKind.i64.wrap a * 60) + b) = IntKind.i64.wrap (a * 60 + b) ∧ IntKind.i64.wrap (IntKind.i64.wrap (IntKind.i64.wrap a * 1000000000) + b) = IntKind.i64.wrap (a * 1000000000 + b) := by
  simp only [IntKind.wrap_i64]
  exact ⟨by omega, by omega⟩
set_option maxHeartbeats 3200000 in
set_option maxRecDepth 100000 in
theorem tog_of (h m s n A1 A2 A3 A4 B2 B3 B4 : Int) (w : World) (hM : SZ w) (f1 : IntKind.i64.wrap h = A1) (g2 : IntKind.i64.wrap (A1 * 60) = B2) (f2 : IntKind.i64.wrap (B2 + m) = A2)
    (g3 : IntKind.i64.wrap (A2 * 60) = B3) (f3 : IntKind.i64.wrap (B3 + s) = A3) (g4 : IntKind.i64.wrap (A3 * 1000000000) = B4) (f4 : IntKind.i64.wrap (B4 + n) = A4) :
    Calls Tryd.prog 19 #[.agg #[.int .i64 h, .int .i64 m, .int .i64 s, .int .i64 n]] w fun e w' => e = .returned (.int .i64 A4) ∧ Below w.heap.size w w' := by
  have c0 : w.cell? ⟨0, 0, none⟩ = some (.int .i64 24) := hM.cell 0 (by decide)
  have c1 : w.cell? ⟨0, 1, none⟩ = some (.int .i64 60) := hM.cell 1 (by decide)
  have c2 : w.cell? ⟨0, 2, none⟩ = some (.int .i64 60) := hM.cell 2 (by decide)
  have c3 : w.cell? ⟨0, 3, none⟩ = some (.int .i64 1000000000) := hM.cell 3 (by decide)
  have zg := hM.size
  clear hM
  have i0 : ∀ w, (Instr.index 51 (.agg #[.int .i64 24, .int .i64 60, .int .i64 60, .int .i64 1000000000]) (.int .i64 0)).run Tryd.prog w = .ok (.int .i64 24) w := fun _ => by kernel_rfl
  have i1 : ∀ w, (Instr.index 51 (.agg #[.int .i64 24, .int .i64 60, .int .i64 60, .int .i64 1000000000]) (.int .i64 1)).run Tryd.prog w = .ok (.int .i64 60) w := fun _ => by kernel_rfl
  have i2 : ∀ w, (Instr.index 51 (.agg #[.int .i64 24, .int .i64 60, .int .i64 60, .int .i64 1000000000]) (.int .i64 2)).run Tryd.prog w = .ok (.int .i64 60) w := fun _ => by kernel_rfl
  have i3 : ∀ w, (Instr.index 51 (.agg #[.int .i64 24, .int .i64 60, .int .i64 60, .int .i64 1000000000]) (.int .i64 3)).run Tryd.prog w = .ok (.int .i64 1000000000) w := fun _ => by kernel_rfl
  go_enter Tryd.func19, Tryd.ntmps19
  go_wp2
  go_loop [3, 7] (fun n t => (t = .int .i64 0 ∧ n = .int .i64 0) ∨ (t = .int .i64 1 ∧ n = .int .i64 A1) ∨ (t = .int .i64 2 ∧ n = .int .i64 A2) ∨ (t = .int .i64 3 ∧ n = .int .i64 A3) ∨ (t = .int .i64 4 ∧ n = .int .i64 A4)) (fun _ t => (4 - intOf t).toNat)
  case atStart => exact Or.inl ⟨rfl, rfl⟩
  case round =>
    rcases hrel with ⟨rfl, rfl⟩ | ⟨rfl, rfl⟩ | ⟨rfl, rfl⟩ | ⟨rfl, rfl⟩ | ⟨rfl, rfl⟩
    · go_wp2
      go_round
      case rel => exact Or.inr (Or.inl ⟨rfl, rfl⟩)
      case measure => simp [intOf]
    · go_wp2
      go_round
      case rel => exact Or.inr (Or.inr (Or.inl ⟨rfl, rfl⟩))
      case measure => simp [intOf]
    · go_wp2
      go_round
      case rel => exact Or.inr (Or.inr (Or.inr (Or.inl ⟨rfl, rfl⟩)))
      case measure => simp [intOf]
    · go_wp2
      go_round
      case rel => exact Or.inr (Or.inr (Or.inr (Or.inr ⟨rfl, rfl⟩)))
      case measure => simp [intOf]
    · go_wp2
      go_ret
      exact ⟨rfl, (Below.refl _ _).alloc (Nat.le_refl _) _⟩
theorem pTog_any (h m s n : Int) (w : World) (hM : SZ w) : Calls Tryd.prog 19 #[.agg #[.int .i64 h, .int .i64 m, .int .i64 s, .int .i64 n]] w fun e w' => e = .returned (.int .i64 (tgK h m s n)) ∧ Below w.heap.size w w' := by
  refine tog_of h m s n (IntKind.i64.wrap h) (IntKind.i64.wrap (h * 60 + m)) (IntKind.i64.wrap ((h * 60 + m) * 60 + s)) (tgK h m s n) _ _ _ w hM rfl rfl (wrap_in h m 0).1 rfl (wrap_in (h * 60 + m) s 0).1 rfl ?_
  unfold tgK
  exact (wrap_in ((h * 60 + m) * 60 + s) n 0).2
theorem two_rows (w : World) (a b : Obj) : ((w.alloc a).alloc b).heap[w.heap.size]? = some a ∧ ((w.alloc a).alloc b).heap[w.heap.size + 1]? = some b := by
  have e : (w.alloc a).heap.size = w.heap.size + 1 := by simp
  have h := heap_alloc_new (w.alloc a) b
  rw [e] at h
  refine ⟨?_, h⟩
  rw [Below.heap_alloc (w.alloc a) b _ (by omega)]
  exact heap_alloc_new w a
/-- one part split off, rounded down: q are left, r is the part. -/
def stg (x c q r : Int) : Prop := -9223372036854775807 ≤ x.tdiv c ∧ x.tdiv c ≤ 9223372036854775807 ∧ -1000000000 ≤ x.tmod c ∧ x.tmod c ≤ 1000000000 ∧ ((x.tmod c < 0 ∧ x.tmod c + c = r ∧ x.tdiv c - 1 = q) ∨ (decide (x.tmod c < 0) = false ∧ x.tmod c = r ∧ x.tdiv c = q))
theorem stg_any (x c : Int) (b : in64 x) (h1 : 1 < c) (h2 : c ≤ 1000000000) : stg x c (x / c) (x % c) := by
  obtain ⟨t1, t2, t3, t4⟩ := tdiv_parts x c (by omega)
  unfold in64 at b
  have q1 : -4611686018427387904 ≤ x / c := by
    rw [Int.le_ediv_iff_mul_le (by omega)]
    have := Int.mul_le_mul_of_nonneg_left (show (2 : Int) ≤ c by omega) (show (0 : Int) ≤ 4611686018427387904 by decide)
    omega
  have q2 : x / c ≤ 4611686018427387904 := by
    have : x / c < 4611686018427387905 := by
      rw [Int.ediv_lt_iff_lt_mul (by omega)]
      have := Int.mul_le_mul_of_nonneg_left (show (2 : Int) ≤ c by omega) (show (0 : Int) ≤ 4611686018427387905 by decide)
      omega
    omega
  unfold stg
  by_cases h : x.tmod c < 0
  · obtain ⟨u1, u2⟩ := t1 h
    exact ⟨by omega, by omega, by omega, by omega, Or.inl ⟨h, u1.symm, u2.symm⟩⟩
  · obtain ⟨u1, u2⟩ := t2 h
    exact ⟨by omega, by omega, by omega, by omega, Or.inr ⟨decide_eq_false h, u1.symm, u2.symm⟩⟩
set_option maxHeartbeats 3200000 in
set_option maxRecDepth 100000 in
theorem apart_of (n X2 X1 X0 D a b c d : Int) (w : World) (hM : SZ w) (K3 : stg n 1000000000 X2 d) (K2 : stg X2 60 X1 c) (K1 : stg X1 60 X0 b) (K0 : stg X0 24 D a) :
    Calls Tryd.prog 22 #[.int .i64 n] w fun e w' => e = .returned (.tuple #[.int .i64 D, .agg #[.int .i64 a, .int .i64 b, .int .i64 c, .int .i64 d]]) ∧ Below w.heap.size w w' := by
  have zg := hM.size
  go_enter Tryd.func22, Tryd.ntmps22
  refine wp_shut ?_
  go_wp2
  go_loopw [5, 6] (fun s5 s6 wr => ((s6 = .int .i64 3 ∧ s5 = .int .i64 n ∧ wr.heap[w.heap.size + 1]? = some (.cells #[.int .i64 0, .int .i64 0, .int .i64 0, .int .i64 0] 52 (0, 0))) ∨ (s6 = .int .i64 2 ∧ s5 = .int .i64 X2 ∧ wr.heap[w.heap.size + 1]? = some (.cells #[.int .i64 0, .int .i64 0, .int .i64 0, .int .i64 d] 52 (0, 0))) ∨ (s6 = .int .i64 1 ∧ s5 = .int .i64 X1 ∧ wr.heap[w.heap.size + 1]? = some (.cells #[.int .i64 0, .int .i64 0, .int .i64 c, .int .i64 d] 52 (0, 0))) ∨ (s6 = .int .i64 0 ∧ s5 = .int .i64 X0 ∧ wr.heap[w.heap.size + 1]? = some (.cells #[.int .i64 0, .int .i64 b, .int .i64 c, .int .i64 d] 52 (0, 0))) ∨ (s6 = .int .i64 (-1) ∧ s5 = .int .i64 D ∧ wr.heap[w.heap.size + 1]? = some (.cells #[.int .i64 a, .int .i64 b, .int .i64 c, .int .i64 d] 52 (0, 0)))) ∧ wr.heap[w.heap.size]? = some (.cells #[.int .i64 0, .int .i64 0, .int .i64 0, .int .i64 0] 52 (0, 0)) ∧ Below w.heap.size w wr) (fun _ s6 _ => (intOf s6 + 1).toNat)
  case atStart => exact ⟨Or.inl ⟨rfl, rfl, (two_rows w _ _).2⟩, (two_rows w _ _).1, ((Below.refl _ _).alloc (Nat.le_refl _) _).alloc (by simp) _⟩
  case round =>
    obtain ⟨hrel, hZ, hB⟩ := hrel
    obtain ⟨V20, rfl⟩ : ∃ V, V = wr := ⟨_, rfl⟩
    have Z1 := Lib.hid hZ
    have B20 := Lib.hid hB
    clear hZ hB
    rcases hrel with ⟨rfl, rfl, hS⟩ | ⟨rfl, rfl, hS⟩ | ⟨rfl, rfl, hS⟩ | ⟨rfl, rfl, hS⟩ | ⟨rfl, rfl, hS⟩
    · have S1 := Lib.hid hS
      clear hS
      have cg : V20.cell? ⟨0, 3, none⟩ = some (.int .i64 1000000000) := (hM.keep B20.out zg).cell 3 (by decide)
      have zV := B20.out.size
      clear hM
      obtain ⟨b1, b2, b3, b4, ⟨k1, k2, k3⟩ | ⟨k1, k2, k3⟩⟩ := K3
      · clear K2 K1 K0
        generalize hr : (n : Int).tmod 1000000000 = t at *
        generalize hq : (n : Int).tdiv 1000000000 = u at *
        
        have Z1_f0 : V20.frozen? ⟨w.heap.size, 0, none⟩ = false := by simp [World.frozen?, Z1.out]
        have Z1_f1 : V20.frozen? ⟨w.heap.size, 1, none⟩ = false := by simp [World.frozen?, Z1.out]
        have Z1_f2 : V20.frozen? ⟨w.heap.size, 2, none⟩ = false := by simp [World.frozen?, Z1.out]
        have Z1_f3 : V20.frozen? ⟨w.heap.size, 3, none⟩ = false := by simp [World.frozen?, Z1.out]
        have Z1_0 : V20.cell? ⟨w.heap.size, 0, none⟩ = some (.int .i64 0) := cell_of_row _ _ _ _ _ _ Z1.out
        have Z1_1 : V20.cell? ⟨w.heap.size, 1, none⟩ = some (.int .i64 0) := cell_of_row _ _ _ _ _ _ Z1.out
        have Z1_2 : V20.cell? ⟨w.heap.size, 2, none⟩ = some (.int .i64 0) := cell_of_row _ _ _ _ _ _ Z1.out
        have Z1_3 : V20.cell? ⟨w.heap.size, 3, none⟩ = some (.int .i64 0) := cell_of_row _ _ _ _ _ _ Z1.out
        have zZ1 := lt_of_heap Z1.out
        have S1_f0 : V20.frozen? ⟨w.heap.size + 1, 0, none⟩ = false := by simp [World.frozen?, S1.out]
        have S1_f1 : V20.frozen? ⟨w.heap.size + 1, 1, none⟩ = false := by simp [World.frozen?, S1.out]
        have S1_f2 : V20.frozen? ⟨w.heap.size + 1, 2, none⟩ = false := by simp [World.frozen?, S1.out]
        have S1_f3 : V20.frozen? ⟨w.heap.size + 1, 3, none⟩ = false := by simp [World.frozen?, S1.out]
        have S1_0 : V20.cell? ⟨w.heap.size + 1, 0, none⟩ = some (.int .i64 0) := cell_of_row _ _ _ _ _ _ S1.out
        have S1_1 : V20.cell? ⟨w.heap.size + 1, 1, none⟩ = some (.int .i64 0) := cell_of_row _ _ _ _ _ _ S1.out
        have S1_2 : V20.cell? ⟨w.heap.size + 1, 2, none⟩ = some (.int .i64 0) := cell_of_row _ _ _ _ _ _ S1.out
        have S1_3 : V20.cell? ⟨w.heap.size + 1, 3, none⟩ = some (.int .i64 0) := cell_of_row _ _ _ _ _ _ S1.out
        have zS1 := lt_of_heap S1.out
        go_wp2
        go_region
        go_wp2
        exact ⟨⟨Or.inr (Or.inl ⟨rfl, rfl, row_set1 (row_set1 S1.out 3 _) 3 _⟩), row_other1 (by omega) (row_other1 (by omega) Z1.out 3 _) 3 _, (keep1 (keep1 B20.out (by omega) 3 _) (by omega) 3 _).drew⟩, by simp [intOf]⟩
      · clear K2 K1 K0
        generalize hr : (n : Int).tmod 1000000000 = t at *
        generalize hq : (n : Int).tdiv 1000000000 = u at *
        subst k2
        subst k3
        
        have Z1_f0 : V20.frozen? ⟨w.heap.size, 0, none⟩ = false := by simp [World.frozen?, Z1.out]
        have Z1_f1 : V20.frozen? ⟨w.heap.size, 1, none⟩ = false := by simp [World.frozen?, Z1.out]
        have Z1_f2 : V20.frozen? ⟨w.heap.size, 2, none⟩ = false := by simp [World.frozen?, Z1.out]
        have Z1_f3 : V20.frozen? ⟨w.heap.size, 3, none⟩ = false := by simp [World.frozen?, Z1.out]
        have Z1_0 : V20.cell? ⟨w.heap.size, 0, none⟩ = some (.int .i64 0) := cell_of_row _ _ _ _ _ _ Z1.out
        have Z1_1 : V20.cell? ⟨w.heap.size, 1, none⟩ = some (.int .i64 0) := cell_of_row _ _ _ _ _ _ Z1.out
        have Z1_2 : V20.cell? ⟨w.heap.size, 2, none⟩ = some (.int .i64 0) := cell_of_row _ _ _ _ _ _ Z1.out
        have Z1_3 : V20.cell? ⟨w.heap.size, 3, none⟩ = some (.int .i64 0) := cell_of_row _ _ _ _ _ _ Z1.out
        have zZ1 := lt_of_heap Z1.out
        have S1_f0 : V20.frozen? ⟨w.heap.size + 1, 0, none⟩ = false := by simp [World.frozen?, S1.out]
        have S1_f1 : V20.frozen? ⟨w.heap.size + 1, 1, none⟩ = false := by simp [World.frozen?, S1.out]
        have S1_f2 : V20.frozen? ⟨w.heap.size + 1, 2, none⟩ = false := by simp [World.frozen?, S1.out]
        have S1_f3 : V20.frozen? ⟨w.heap.size + 1, 3, none⟩ = false := by simp [World.frozen?, S1.out]
        have S1_0 : V20.cell? ⟨w.heap.size + 1, 0, none⟩ = some (.int .i64 0) := cell_of_row _ _ _ _ _ _ S1.out
        have S1_1 : V20.cell? ⟨w.heap.size + 1, 1, none⟩ = some (.int .i64 0) := cell_of_row _ _ _ _ _ _ S1.out
        have S1_2 : V20.cell? ⟨w.heap.size + 1, 2, none⟩ = some (.int .i64 0) := cell_of_row _ _ _ _ _ _ S1.out
        have S1_3 : V20.cell? ⟨w.heap.size + 1, 3, none⟩ = some (.int .i64 0) := cell_of_row _ _ _ _ _ _ S1.out
        have zS1 := lt_of_heap S1.out
        go_wp2
        exact ⟨⟨Or.inr (Or.inl ⟨rfl, rfl, row_set1 S1.out 3 _⟩), row_other1 (by omega) Z1.out 3 _, keep1 B20.out (by omega) 3 _⟩, by simp [intOf]⟩
    · have S1 := Lib.hid hS
      clear hS
      have cg : V20.cell? ⟨0, 2, none⟩ = some (.int .i64 60) := (hM.keep B20.out zg).cell 2 (by decide)
      have zV := B20.out.size
      clear hM
      obtain ⟨b1, b2, b3, b4, ⟨k1, k2, k3⟩ | ⟨k1, k2, k3⟩⟩ := K2
      · clear K3 K1 K0
        generalize hr : (X2 : Int).tmod 60 = t at *
        generalize hq : (X2 : Int).tdiv 60 = u at *
        
        have Z1_f0 : V20.frozen? ⟨w.heap.size, 0, none⟩ = false := by simp [World.frozen?, Z1.out]
        have Z1_f1 : V20.frozen? ⟨w.heap.size, 1, none⟩ = false := by simp [World.frozen?, Z1.out]
        have Z1_f2 : V20.frozen? ⟨w.heap.size, 2, none⟩ = false := by simp [World.frozen?, Z1.out]
        have Z1_f3 : V20.frozen? ⟨w.heap.size, 3, none⟩ = false := by simp [World.frozen?, Z1.out]
        have Z1_0 : V20.cell? ⟨w.heap.size, 0, none⟩ = some (.int .i64 0) := cell_of_row _ _ _ _ _ _ Z1.out
        have Z1_1 : V20.cell? ⟨w.heap.size, 1, none⟩ = some (.int .i64 0) := cell_of_row _ _ _ _ _ _ Z1.out
        have Z1_2 : V20.cell? ⟨w.heap.size, 2, none⟩ = some (.int .i64 0) := cell_of_row _ _ _ _ _ _ Z1.out
        have Z1_3 : V20.cell? ⟨w.heap.size, 3, none⟩ = some (.int .i64 0) := cell_of_row _ _ _ _ _ _ Z1.out
        have zZ1 := lt_of_heap Z1.out
        have S1_f0 : V20.frozen? ⟨w.heap.size + 1, 0, none⟩ = false := by simp [World.frozen?, S1.out]
        have S1_f1 : V20.frozen? ⟨w.heap.size + 1, 1, none⟩ = false := by simp [World.frozen?, S1.out]
        have S1_f2 : V20.frozen? ⟨w.heap.size + 1, 2, none⟩ = false := by simp [World.frozen?, S1.out]
        have S1_f3 : V20.frozen? ⟨w.heap.size + 1, 3, none⟩ = false := by simp [World.frozen?, S1.out]
        have S1_0 : V20.cell? ⟨w.heap.size + 1, 0, none⟩ = some (.int .i64 0) := cell_of_row _ _ _ _ _ _ S1.out
        have S1_1 : V20.cell? ⟨w.heap.size + 1, 1, none⟩ = some (.int .i64 0) := cell_of_row _ _ _ _ _ _ S1.out
        have S1_2 : V20.cell? ⟨w.heap.size + 1, 2, none⟩ = some (.int .i64 0) := cell_of_row _ _ _ _ _ _ S1.out
        have S1_3 : V20.cell? ⟨w.heap.size + 1, 3, none⟩ = some (.int .i64 d) := cell_of_row _ _ _ _ _ _ S1.out
        have zS1 := lt_of_heap S1.out
        go_wp2
        go_region
        go_wp2
        exact ⟨⟨Or.inr (Or.inr (Or.inl ⟨rfl, rfl, row_set1 (row_set1 S1.out 2 _) 2 _⟩)), row_other1 (by omega) (row_other1 (by omega) Z1.out 2 _) 2 _, (keep1 (keep1 B20.out (by omega) 2 _) (by omega) 2 _).drew⟩, by simp [intOf]⟩
      · clear K3 K1 K0
        generalize hr : (X2 : Int).tmod 60 = t at *
        generalize hq : (X2 : Int).tdiv 60 = u at *
        subst k2
        subst k3
        
        have Z1_f0 : V20.frozen? ⟨w.heap.size, 0, none⟩ = false := by simp [World.frozen?, Z1.out]
        have Z1_f1 : V20.frozen? ⟨w.heap.size, 1, none⟩ = false := by simp [World.frozen?, Z1.out]
        have Z1_f2 : V20.frozen? ⟨w.heap.size, 2, none⟩ = false := by simp [World.frozen?, Z1.out]
        have Z1_f3 : V20.frozen? ⟨w.heap.size, 3, none⟩ = false := by simp [World.frozen?, Z1.out]
        have Z1_0 : V20.cell? ⟨w.heap.size, 0, none⟩ = some (.int .i64 0) := cell_of_row _ _ _ _ _ _ Z1.out
        have Z1_1 : V20.cell? ⟨w.heap.size, 1, none⟩ = some (.int .i64 0) := cell_of_row _ _ _ _ _ _ Z1.out
        have Z1_2 : V20.cell? ⟨w.heap.size, 2, none⟩ = some (.int .i64 0) := cell_of_row _ _ _ _ _ _ Z1.out
        have Z1_3 : V20.cell? ⟨w.heap.size, 3, none⟩ = some (.int .i64 0) := cell_of_row _ _ _ _ _ _ Z1.out
        have zZ1 := lt_of_heap Z1.out
        have S1_f0 : V20.frozen? ⟨w.heap.size + 1, 0, none⟩ = false := by simp [World.frozen?, S1.out]
        have S1_f1 : V20.frozen? ⟨w.heap.size + 1, 1, none⟩ = false := by simp [World.frozen?, S1.out]
        have S1_f2 : V20.frozen? ⟨w.heap.size + 1, 2, none⟩ = false := by simp [World.frozen?, S1.out]
        have S1_f3 : V20.frozen? ⟨w.heap.size + 1, 3, none⟩ = false := by simp [World.frozen?, S1.out]
        have S1_0 : V20.cell? ⟨w.heap.size + 1, 0, none⟩ = some (.int .i64 0) := cell_of_row _ _ _ _ _ _ S1.out
        have S1_1 : V20.cell? ⟨w.heap.size + 1, 1, none⟩ = some (.int .i64 0) := cell_of_row _ _ _ _ _ _ S1.out
        have S1_2 : V20.cell? ⟨w.heap.size + 1, 2, none⟩ = some (.int .i64 0) := cell_of_row _ _ _ _ _ _ S1.out
        have S1_3 : V20.cell? ⟨w.heap.size + 1, 3, none⟩ = some (.int .i64 d) := cell_of_row _ _ _ _ _ _ S1.out
        have zS1 := lt_of_heap S1.out
        go_wp2
        exact ⟨⟨Or.inr (Or.inr (Or.inl ⟨rfl, rfl, row_set1 S1.out 2 _⟩)), row_other1 (by omega) Z1.out 2 _, keep1 B20.out (by omega) 2 _⟩, by simp [intOf]⟩
    · have S1 := Lib.hid hS
      clear hS
      have cg : V20.cell? ⟨0, 1, none⟩ = some (.int .i64 60) := (hM.keep B20.out zg).cell 1 (by decide)
      have zV := B20.out.size
      clear hM
      obtain ⟨b1, b2, b3, b4, ⟨k1, k2, k3⟩ | ⟨k1, k2, k3⟩⟩ := K1
      · clear K3 K2 K0
        generalize hr : (X1 : Int).tmod 60 = t at *
        generalize hq : (X1 : Int).tdiv 60 = u at *
        
        have Z1_f0 : V20.frozen? ⟨w.heap.size, 0, none⟩ = false := by simp [World.frozen?, Z1.out]
        have Z1_f1 : V20.frozen? ⟨w.heap.size, 1, none⟩ = false := by simp [World.frozen?, Z1.out]
        have Z1_f2 : V20.frozen? ⟨w.heap.size, 2, none⟩ = false := by simp [World.frozen?, Z1.out]
        have Z1_f3 : V20.frozen? ⟨w.heap.size, 3, none⟩ = false := by simp [World.frozen?, Z1.out]
        have Z1_0 : V20.cell? ⟨w.heap.size, 0, none⟩ = some (.int .i64 0) := cell_of_row _ _ _ _ _ _ Z1.out
        have Z1_1 : V20.cell? ⟨w.heap.size, 1, none⟩ = some (.int .i64 0) := cell_of_row _ _ _ _ _ _ Z1.out
        have Z1_2 : V20.cell? ⟨w.heap.size, 2, none⟩ = some (.int .i64 0) := cell_of_row _ _ _ _ _ _ Z1.out
        have Z1_3 : V20.cell? ⟨w.heap.size, 3, none⟩ = some (.int .i64 0) := cell_of_row _ _ _ _ _ _ Z1.out
        have zZ1 := lt_of_heap Z1.out
        have S1_f0 : V20.frozen? ⟨w.heap.size + 1, 0, none⟩ = false := by simp [World.frozen?, S1.out]
        have S1_f1 : V20.frozen? ⟨w.heap.size + 1, 1, none⟩ = false := by simp [World.frozen?, S1.out]
        have S1_f2 : V20.frozen? ⟨w.heap.size + 1, 2, none⟩ = false := by simp [World.frozen?, S1.out]
        have S1_f3 : V20.frozen? ⟨w.heap.size + 1, 3, none⟩ = false := by simp [World.frozen?, S1.out]
        have S1_0 : V20.cell? ⟨w.heap.size + 1, 0, none⟩ = some (.int .i64 0) := cell_of_row _ _ _ _ _ _ S1.out
        have S1_1 : V20.cell? ⟨w.heap.size + 1, 1, none⟩ = some (.int .i64 0) := cell_of_row _ _ _ _ _ _ S1.out
        have S1_2 : V20.cell? ⟨w.heap.size + 1, 2, none⟩ = some (.int .i64 c) := cell_of_row _ _ _ _ _ _ S1.out
        have S1_3 : V20.cell? ⟨w.heap.size + 1, 3, none⟩ = some (.int .i64 d) := cell_of_row _ _ _ _ _ _ S1.out
        have zS1 := lt_of_heap S1.out
        go_wp2
        go_region
        go_wp2
        exact ⟨⟨Or.inr (Or.inr (Or.inr (Or.inl ⟨rfl, rfl, row_set1 (row_set1 S1.out 1 _) 1 _⟩))), row_other1 (by omega) (row_other1 (by omega) Z1.out 1 _) 1 _, (keep1 (keep1 B20.out (by omega) 1 _) (by omega) 1 _).drew⟩, by simp [intOf]⟩
      · clear K3 K2 K0
        generalize hr : (X1 : Int).tmod 60 = t at *
        generalize hq : (X1 : Int).tdiv 60 = u at *
        subst k2
        subst k3
        
        have Z1_f0 : V20.frozen? ⟨w.heap.size, 0, none⟩ = false := by simp [World.frozen?, Z1.out]
        have Z1_f1 : V20.frozen? ⟨w.heap.size, 1, none⟩ = false := by simp [World.frozen?, Z1.out]
        have Z1_f2 : V20.frozen? ⟨w.heap.size, 2, none⟩ = false := by simp [World.frozen?, Z1.out]
        have Z1_f3 : V20.frozen? ⟨w.heap.size, 3, none⟩ = false := by simp [World.frozen?, Z1.out]
        have Z1_0 : V20.cell? ⟨w.heap.size, 0, none⟩ = some (.int .i64 0) := cell_of_row _ _ _ _ _ _ Z1.out
        have Z1_1 : V20.cell? ⟨w.heap.size, 1, none⟩ = some (.int .i64 0) := cell_of_row _ _ _ _ _ _ Z1.out
        have Z1_2 : V20.cell? ⟨w.heap.size, 2, none⟩ = some (.int .i64 0) := cell_of_row _ _ _ _ _ _ Z1.out
        have Z1_3 : V20.cell? ⟨w.heap.size, 3, none⟩ = some (.int .i64 0) := cell_of_row _ _ _ _ _ _ Z1.out
        have zZ1 := lt_of_heap Z1.out
        have S1_f0 : V20.frozen? ⟨w.heap.size + 1, 0, none⟩ = false := by simp [World.frozen?, S1.out]
        have S1_f1 : V20.frozen? ⟨w.heap.size + 1, 1, none⟩ = false := by simp [World.frozen?, S1.out]
        have S1_f2 : V20.frozen? ⟨w.heap.size + 1, 2, none⟩ = false := by simp [World.frozen?, S1.out]
        have S1_f3 : V20.frozen? ⟨w.heap.size + 1, 3, none⟩ = false := by simp [World.frozen?, S1.out]
        have S1_0 : V20.cell? ⟨w.heap.size + 1, 0, none⟩ = some (.int .i64 0) := cell_of_row _ _ _ _ _ _ S1.out
        have S1_1 : V20.cell? ⟨w.heap.size + 1, 1, none⟩ = some (.int .i64 0) := cell_of_row _ _ _ _ _ _ S1.out
        have S1_2 : V20.cell? ⟨w.heap.size + 1, 2, none⟩ = some (.int .i64 c) := cell_of_row _ _ _ _ _ _ S1.out
        have S1_3 : V20.cell? ⟨w.heap.size + 1, 3, none⟩ = some (.int .i64 d) := cell_of_row _ _ _ _ _ _ S1.out
        have zS1 := lt_of_heap S1.out
        go_wp2
        exact ⟨⟨Or.inr (Or.inr (Or.inr (Or.inl ⟨rfl, rfl, row_set1 S1.out 1 _⟩))), row_other1 (by omega) Z1.out 1 _, keep1 B20.out (by omega) 1 _⟩, by simp [intOf]⟩
    · have S1 := Lib.hid hS
      clear hS
      have cg : V20.cell? ⟨0, 0, none⟩ = some (.int .i64 24) := (hM.keep B20.out zg).cell 0 (by decide)
      have zV := B20.out.size
      clear hM
      obtain ⟨b1, b2, b3, b4, ⟨k1, k2, k3⟩ | ⟨k1, k2, k3⟩⟩ := K0
      · clear K3 K2 K1
        generalize hr : (X0 : Int).tmod 24 = t at *
        generalize hq : (X0 : Int).tdiv 24 = u at *
        
        have Z1_f0 : V20.frozen? ⟨w.heap.size, 0, none⟩ = false := by simp [World.frozen?, Z1.out]
        have Z1_f1 : V20.frozen? ⟨w.heap.size, 1, none⟩ = false := by simp [World.frozen?, Z1.out]
        have Z1_f2 : V20.frozen? ⟨w.heap.size, 2, none⟩ = false := by simp [World.frozen?, Z1.out]
        have Z1_f3 : V20.frozen? ⟨w.heap.size, 3, none⟩ = false := by simp [World.frozen?, Z1.out]
        have Z1_0 : V20.cell? ⟨w.heap.size, 0, none⟩ = some (.int .i64 0) := cell_of_row _ _ _ _ _ _ Z1.out
        have Z1_1 : V20.cell? ⟨w.heap.size, 1, none⟩ = some (.int .i64 0) := cell_of_row _ _ _ _ _ _ Z1.out
        have Z1_2 : V20.cell? ⟨w.heap.size, 2, none⟩ = some (.int .i64 0) := cell_of_row _ _ _ _ _ _ Z1.out
        have Z1_3 : V20.cell? ⟨w.heap.size, 3, none⟩ = some (.int .i64 0) := cell_of_row _ _ _ _ _ _ Z1.out
        have zZ1 := lt_of_heap Z1.out
        have S1_f0 : V20.frozen? ⟨w.heap.size + 1, 0, none⟩ = false := by simp [World.frozen?, S1.out]
        have S1_f1 : V20.frozen? ⟨w.heap.size + 1, 1, none⟩ = false := by simp [World.frozen?, S1.out]
        have S1_f2 : V20.frozen? ⟨w.heap.size + 1, 2, none⟩ = false := by simp [World.frozen?, S1.out]
        have S1_f3 : V20.frozen? ⟨w.heap.size + 1, 3, none⟩ = false := by simp [World.frozen?, S1.out]
        have S1_0 : V20.cell? ⟨w.heap.size + 1, 0, none⟩ = some (.int .i64 0) := cell_of_row _ _ _ _ _ _ S1.out
        have S1_1 : V20.cell? ⟨w.heap.size + 1, 1, none⟩ = some (.int .i64 b) := cell_of_row _ _ _ _ _ _ S1.out
        have S1_2 : V20.cell? ⟨w.heap.size + 1, 2, none⟩ = some (.int .i64 c) := cell_of_row _ _ _ _ _ _ S1.out
        have S1_3 : V20.cell? ⟨w.heap.size + 1, 3, none⟩ = some (.int .i64 d) := cell_of_row _ _ _ _ _ _ S1.out
        have zS1 := lt_of_heap S1.out
        go_wp2
        go_region
        go_wp2
        exact ⟨⟨Or.inr (Or.inr (Or.inr (Or.inr ⟨rfl, rfl, row_set1 (row_set1 S1.out 0 _) 0 _⟩))), row_other1 (by omega) (row_other1 (by omega) Z1.out 0 _) 0 _, (keep1 (keep1 B20.out (by omega) 0 _) (by omega) 0 _).drew⟩, by simp [intOf]⟩
      · clear K3 K2 K1
        generalize hr : (X0 : Int).tmod 24 = t at *
        generalize hq : (X0 : Int).tdiv 24 = u at *
        subst k2
        subst k3
        
        have Z1_f0 : V20.frozen? ⟨w.heap.size, 0, none⟩ = false := by simp [World.frozen?, Z1.out]
        have Z1_f1 : V20.frozen? ⟨w.heap.size, 1, none⟩ = false := by simp [World.frozen?, Z1.out]
        have Z1_f2 : V20.frozen? ⟨w.heap.size, 2, none⟩ = false := by simp [World.frozen?, Z1.out]
        have Z1_f3 : V20.frozen? ⟨w.heap.size, 3, none⟩ = false := by simp [World.frozen?, Z1.out]
        have Z1_0 : V20.cell? ⟨w.heap.size, 0, none⟩ = some (.int .i64 0) := cell_of_row _ _ _ _ _ _ Z1.out
        have Z1_1 : V20.cell? ⟨w.heap.size, 1, none⟩ = some (.int .i64 0) := cell_of_row _ _ _ _ _ _ Z1.out
        have Z1_2 : V20.cell? ⟨w.heap.size, 2, none⟩ = some (.int .i64 0) := cell_of_row _ _ _ _ _ _ Z1.out
        have Z1_3 : V20.cell? ⟨w.heap.size, 3, none⟩ = some (.int .i64 0) := cell_of_row _ _ _ _ _ _ Z1.out
        have zZ1 := lt_of_heap Z1.out
        have S1_f0 : V20.frozen? ⟨w.heap.size + 1, 0, none⟩ = false := by simp [World.frozen?, S1.out]
        have S1_f1 : V20.frozen? ⟨w.heap.size + 1, 1, none⟩ = false := by simp [World.frozen?, S1.out]
        have S1_f2 : V20.frozen? ⟨w.heap.size + 1, 2, none⟩ = false := by simp [World.frozen?, S1.out]
        have S1_f3 : V20.frozen? ⟨w.heap.size + 1, 3, none⟩ = false := by simp [World.frozen?, S1.out]
        have S1_0 : V20.cell? ⟨w.heap.size + 1, 0, none⟩ = some (.int .i64 0) := cell_of_row _ _ _ _ _ _ S1.out
        have S1_1 : V20.cell? ⟨w.heap.size + 1, 1, none⟩ = some (.int .i64 b) := cell_of_row _ _ _ _ _ _ S1.out
        have S1_2 : V20.cell? ⟨w.heap.size + 1, 2, none⟩ = some (.int .i64 c) := cell_of_row _ _ _ _ _ _ S1.out
        have S1_3 : V20.cell? ⟨w.heap.size + 1, 3, none⟩ = some (.int .i64 d) := cell_of_row _ _ _ _ _ _ S1.out
        have zS1 := lt_of_heap S1.out
        go_wp2
        exact ⟨⟨Or.inr (Or.inr (Or.inr (Or.inr ⟨rfl, rfl, row_set1 S1.out 0 _⟩))), row_other1 (by omega) Z1.out 0 _, keep1 B20.out (by omega) 0 _⟩, by simp [intOf]⟩
    · have S1 := Lib.hid hS
      clear hS hM K0 K1 K2 K3
      have zV := B20.out.size
      
      have Z1_f0 : V20.frozen? ⟨w.heap.size, 0, none⟩ = false := by simp [World.frozen?, Z1.out]
      have Z1_f1 : V20.frozen? ⟨w.heap.size, 1, none⟩ = false := by simp [World.frozen?, Z1.out]
      have Z1_f2 : V20.frozen? ⟨w.heap.size, 2, none⟩ = false := by simp [World.frozen?, Z1.out]
      have Z1_f3 : V20.frozen? ⟨w.heap.size, 3, none⟩ = false := by simp [World.frozen?, Z1.out]
      have Z1_0 : V20.cell? ⟨w.heap.size, 0, none⟩ = some (.int .i64 0) := cell_of_row _ _ _ _ _ _ Z1.out
      have Z1_1 : V20.cell? ⟨w.heap.size, 1, none⟩ = some (.int .i64 0) := cell_of_row _ _ _ _ _ _ Z1.out
      have Z1_2 : V20.cell? ⟨w.heap.size, 2, none⟩ = some (.int .i64 0) := cell_of_row _ _ _ _ _ _ Z1.out
      have Z1_3 : V20.cell? ⟨w.heap.size, 3, none⟩ = some (.int .i64 0) := cell_of_row _ _ _ _ _ _ Z1.out
      have zZ1 := lt_of_heap Z1.out
      have S1_f0 : V20.frozen? ⟨w.heap.size + 1, 0, none⟩ = false := by simp [World.frozen?, S1.out]
      have S1_f1 : V20.frozen? ⟨w.heap.size + 1, 1, none⟩ = false := by simp [World.frozen?, S1.out]
      have S1_f2 : V20.frozen? ⟨w.heap.size + 1, 2, none⟩ = false := by simp [World.frozen?, S1.out]
      have S1_f3 : V20.frozen? ⟨w.heap.size + 1, 3, none⟩ = false := by simp [World.frozen?, S1.out]
      have S1_0 : V20.cell? ⟨w.heap.size + 1, 0, none⟩ = some (.int .i64 a) := cell_of_row _ _ _ _ _ _ S1.out
      have S1_1 : V20.cell? ⟨w.heap.size + 1, 1, none⟩ = some (.int .i64 b) := cell_of_row _ _ _ _ _ _ S1.out
      have S1_2 : V20.cell? ⟨w.heap.size + 1, 2, none⟩ = some (.int .i64 c) := cell_of_row _ _ _ _ _ _ S1.out
      have S1_3 : V20.cell? ⟨w.heap.size + 1, 3, none⟩ = some (.int .i64 d) := cell_of_row _ _ _ _ _ _ S1.out
      have zS1 := lt_of_heap S1.out
      go_wp2
      go_region
      go_wp2
      refine shut_ret (v := .tuple #[.int .i64 D, .agg #[.int .i64 a, .int .i64 b, .int .i64 c, .int .i64 d]]) (by simp [results, Tryd.results22, go_sem, zZ1, Z1_0, Z1_1, Z1_2, Z1_3]) rfl ⟨rfl, ?_⟩
      exact (keep4 B20.out (by omega) _ _ _ _).drew
end Go.Proofs.YtpkbcnofieinaaaDoor
