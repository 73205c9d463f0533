/- Several texts in one: CrA, CrM, CrN, CrF, CrC, CrD, CrG, CrH, CrI, CrJ, CrK, CrS, CrL. -/
import Derived.Test.YtafecnlaodgmkaaGreatDoorY2Sm
import Derived.Test.YtafecnlaodgmkaaGreatDoorShelf
import Derived.Test.YtafecnlaodgmkaaGreatDoorY2Ex1
import Derived.Test.YtafecnlaodgmkaaGreatDoorY2Lex1
import Derived.Test.YtafecnlaodgmkaaGreatDoorY2Rul1
import Derived.Test.YtafecnlaodgmkaaGreatDoorY2OwnA1
import Derived.Test.YtafecnlaodgmkaaGreatDoorY2Rp2
import Derived.Test.YtafecnlaodgmkaaGreatDoorY2Ep3
import Derived.Test.YtafecnlaodgmkaaGreatDoorSorti
import Derived.BigQuiet
import Derived.RegionTactic
import Derived.Deep.AppendLies
import Derived.StillTailTactics
import Derived.Laws.MakeOwn
import Derived.Laws.AppendOwnNone
import Derived.Sort.OwnSortedInts
import Derived.Sort.EveryDepth
import Derived.Shelf.Sort.AssemblyIn
import Derived.Shelf.Slices.Clone
namespace Go.Proofs.YtafecnlaodgmkaaGreatDoor
set_option linter.unusedVariables false
set_option linter.unusedSimpArgs false
open Go.ChangeShapes Go.WideShapes Go.ChangeAt Go.RowKit
def intVs (l : List Int) : List Value := l.map (fun n => .int .i64 n)
theorem Rd.ints {w : World} {A : Option Addr} {T : List Int} (h : Rd w A (intVs T)) {k : Nat} (hk : k < T.length) :
    ∃ b o, A = some ⟨b, o, none⟩ ∧ b < w.heap.size ∧ ∀ i (hi : i < T.length), w.cell? ⟨b, o + i, none⟩ = some (.int .i64 T[i]) := by
  have hat : ∀ i (hi : i < T.length), (intVs T)[i]? = some (.int .i64 T[i]) := fun i hi => by unfold intVs; simp [hi]
  obtain ⟨b, o, hA, hb, _⟩ := h _ _ (hat k hk)
  exact ⟨b, o, hA, hb, fun i hi => h.at_ hA (hat i hi)⟩
def cntM (l : List Int) (wi a : Int) : Nat := l.countP (fun b => decide (a ≤ b) && decide (b - a ≤ wi))
def mostF (l : List Int) (wi : Int) (m a : Int) : Int := max m (cntM l wi a : Int)
def mostV (l : List Int) (wi : Int) : Int := if wi < 0 then 0 else l.foldl (mostF l wi) 0
theorem cnt_take {l : List Int} {wi a : Int} {j : Nat} (h : j < l.length) : cntM (l.take (j + 1)) wi a = cntM (l.take j) wi a + if (a ≤ l[j] ∧ l[j] - a ≤ wi) then 1 else 0 := by
  unfold cntM
  rw [List.take_succ_eq_append_getElem h, List.countP_append, List.countP_cons, List.countP_nil]
  by_cases h1 : a ≤ l[j] <;> by_cases h2 : l[j] - a ≤ wi <;> simp [h1, h2]
theorem most_take {l m : List Int} {wi : Int} {k : Nat} (h : k < l.length) : (l.take (k + 1)).foldl (mostF m wi) 0 = max ((l.take k).foldl (mostF m wi) 0) (cntM m wi l[k] : Int) := by
  rw [List.take_succ_eq_append_getElem h, List.foldl_append]
  rfl
theorem cnt_le (l : List Int) (wi a : Int) : cntM l wi a ≤ l.length := List.countP_le_length
theorem most_bd {l m : List Int} {wi : Int} : 0 ≤ l.foldl (mostF m wi) 0 ∧ l.foldl (mostF m wi) 0 ≤ m.length := by
  have key : ∀ (l : List Int) (x : Int), 0 ≤ x → x ≤ m.length → 0 ≤ l.foldl (mostF m wi) x ∧ l.foldl (mostF m wi) x ≤ m.length := by
    intro l
    induction l with
    | nil => exact fun x h1 h2 => ⟨h1, h2⟩
    | cons a r ih =>
      intro x h1 h2
      have := cnt_le m wi a
      refine ih (mostF m wi x a) ?_ ?_
      · unfold mostF; omega
      · unfold mostF; omega
  exact key l 0 (by omega) (by omega)
theorem dwn18 {B : Nat} {a w : World} (h : Below B a w) (n : Nat) : Below B a (w.drewN n) := ⟨h.os, h.tape, h.output, h.size, h.block⟩
set_option maxHeartbeats 6400000 in
set_option maxRecDepth 100000 in
theorem rMost_any (l : List Int) (wi : Int) (A : Option Addr) (c : Nat) (hl : ∀ a ∈ l, -9223372036854775808 ≤ a ∧ a < 9223372036854775808) (hw : -9223372036854775808 ≤ wi ∧ wi < 9223372036854775808) (hn : l.length ≤ 1000000000) (w : World) (h : Rd w A (intVs l)) :
    Calls Tryz.prog 9 #[.slice A l.length c, .int .i64 wi] w fun e w' => e = .returned (.int .i64 (mostV l wi)) ∧ Below w.heap.size w w' := by
  have hH := Lib.hid h
  have hl2 := Lib.hid hl
  clear h hl
  by_cases hneg : wi < 0
  · have E : Hid (mostV l wi = 0) := Lib.hid (if_pos hneg)
    have d0 : decide (0 ≤ wi) = false := decide_eq_false (by omega)
    by_cases h0 : 0 < l.length
    all_goals
      go_enter Tryz.func9, Tryz.ntmps9
      go_wp2
      refine wp_loop_rounds 1 ?_
      rw [rounds_succ]
      go_wp2
      go_ret
      exact ⟨by rw [E.out]; try rfl, Below.refl _ _⟩
  · have E : Hid (mostV l wi = l.foldl (mostF l wi) 0) := Lib.hid (if_neg hneg)
    have d0 : decide (0 ≤ wi) = true := decide_eq_true (by omega)
    have fw : IntKind.u64.wrap wi = wi := by rw [IntKind.wrap_u64]; omega
    go_enter Tryz.func9, Tryz.ntmps9
    go_wp2
    go_loopw [5, 6] (fun m i wr => ∃ k : Nat, k ≤ l.length ∧ i = .int .i64 (k : Int) ∧ m = .int .i64 ((l.take k).foldl (mostF l wi) 0) ∧ Hid (Below w.heap.size w wr)) (fun _ i _ => l.length - (intOf i).toNat)
    case atStart => exact ⟨0, by omega, rfl, rfl, Lib.hid (Below.refl _ _)⟩
    case round =>
      obtain ⟨k, hk, rfl, rfl, B20⟩ := hrel
      obtain ⟨V20, rfl⟩ : ∃ V, V = wr := ⟨_, rfl⟩
      have mb := most_bd (l := l.take k) (m := l) (wi := wi)
      by_cases hlt : k < l.length
      · obtain ⟨b, o, rfl, hbl, hc⟩ := hH.out.ints hlt
        have hnext := Lib.hid (most_take (m := l) (wi := wi) hlt)
        have K0 := hc k hlt
        have ha := hl2.out l[k] (List.getElem_mem hlt)
        have hc2 := Lib.hid hc
        have hkT : (k : Int) < (l.length : Int) := by omega
        clear hc
        generalize (l.take k).foldl (mostF l wi) 0 = m0 at *
        generalize hak : l[k] = a at *
        replace hak := Lib.hid hak
        go_wp2
        go_loopw [7, 8] (fun n i wr => ∃ j : Nat, j ≤ l.length ∧ i = .int .i64 (j : Int) ∧ n = .int .i64 (cntM (l.take j) wi a : Int) ∧ Hid (Below w.heap.size w wr)) (fun _ i _ => l.length - (intOf i).toNat)
        case atStart => exact ⟨0, by omega, rfl, rfl, B20⟩
        case round =>
          obtain ⟨j, hj, rfl, rfl, B30⟩ := hrel
          obtain ⟨V30, rfl⟩ : ∃ V, V = wr := ⟨_, rfl⟩
          clear B20
          have cb := cnt_le (l.take j) wi a
          have cb2 : (l.take j).length ≤ l.length := by simp; omega
          by_cases hjl : j < l.length
          · have k0 : V30.cell? ⟨b, o + k, none⟩ = some (.int .i64 a) := (B30.out.cell (p := ⟨b, o + k, none⟩) hbl).trans K0
            have j0 : V30.cell? ⟨b, o + j, none⟩ = some (.int .i64 l[j]) := (B30.out.cell (p := ⟨b, o + j, none⟩) hbl).trans (hc2.out j hjl)
            have hx := hl2.out l[j] (List.getElem_mem hjl)
            have hcn := Lib.hid (cnt_take (wi := wi) (a := a) hjl)
            have hjT : (j : Int) < (l.length : Int) := by omega
            have hBd := Lib.hid (fun q => Lib.hid (dwn18 B30.out q))
            generalize cntM (l.take j) wi a = n0 at *
            generalize l[j] = x at *
            obtain ⟨ua, f1⟩ : ∃ ua, IntKind.u64.wrap a = ua := ⟨_, rfl⟩
            obtain ⟨ux, f2⟩ : ∃ ux, IntKind.u64.wrap x = ux := ⟨_, rfl⟩
            by_cases h1 : a ≤ x
            · have d1 : decide (a ≤ x) = true := decide_eq_true h1
              have f3 : IntKind.u64.wrap (ux - ua) = x - a := by
                rw [← f1, ← f2]
                simp only [IntKind.wrap_u64]
                omega
              by_cases h2 : x - a ≤ wi
              · have d2 : decide (x - a ≤ wi) = true := decide_eq_true h2
                have hcn2 := Lib.hid (hcn.out.trans (by rw [if_pos ⟨h1, h2⟩]))
                go_wp2_with fail
                go_quiet (fail)
                go_wp2
                go_roundw
                case rel => exact ⟨j + 1, by omega, by go_num, by rw [hcn2.out]; go_num, hBd.out _⟩
                case measure => simp [intOf]; omega
              · have d2 : decide (x - a ≤ wi) = false := decide_eq_false h2
                have hcn2 := Lib.hid (hcn.out.trans (by rw [if_neg (fun q => h2 q.2)]))
                go_wp2_with fail
                go_quiet (fail)
                go_wp2
                go_roundw
                case rel => exact ⟨j + 1, by omega, by go_num, by rw [hcn2.out]; go_num, hBd.out _⟩
                case measure => simp [intOf]; omega
            · have d1 : decide (a ≤ x) = false := decide_eq_false h1
              have hcn2 := Lib.hid (hcn.out.trans (by rw [if_neg (fun q => h1 q.1)]))
              go_wp2_with fail
              go_quiet (fail)
              go_wp2
              go_roundw
              case rel => exact ⟨j + 1, by omega, by go_num, by rw [hcn2.out]; go_num, hBd.out _⟩
              case measure => simp [intOf]; omega
          · obtain rfl : j = l.length := by omega
            rw [List.take_length] at *
            generalize cntM l wi a = n0 at *
            by_cases hm : m0 < (n0 : Int)
            · have hmx : Hid (max m0 (n0 : Int) = (n0 : Int)) := Lib.hid (by omega)
              go_wp2
              go_roundw
              case rel => exact ⟨k + 1, by omega, by go_num, by rw [hnext.out, hmx.out], B30⟩
              case measure => simp [intOf]; omega
            · have hmx : Hid (max m0 (n0 : Int) = m0) := Lib.hid (by omega)
              go_wp2
              go_roundw
              case rel => exact ⟨k + 1, by omega, by go_num, by rw [hnext.out, hmx.out], B30⟩
              case measure => simp [intOf]; omega
      · obtain rfl : k = l.length := by omega
        rw [List.take_length]
        go_wp2
        go_ret
        exact ⟨by rw [E.out]; try rfl, B20.out⟩
end Go.Proofs.YtafecnlaodgmkaaGreatDoor
namespace Go.Proofs.YtafecnlaodgmkaaGreatDoor
set_option linter.unusedVariables false
theorem fold_most {m : List Int} {wi : Int} : ∀ (l : List Int) (x : Int), x ≤ l.foldl (mostF m wi) x ∧ (∀ a ∈ l, (cntM m wi a : Int) ≤ l.foldl (mostF m wi) x) ∧ (l.foldl (mostF m wi) x = x ∨ ∃ a ∈ l, l.foldl (mostF m wi) x = (cntM m wi a : Int)) := by
  intro l
  induction l with
  | nil => exact fun x => ⟨Int.le_refl _, fun a h => absurd h List.not_mem_nil, Or.inl rfl⟩
  | cons b r ih =>
    intro x
    obtain ⟨h1, h2, h3⟩ := ih (mostF m wi x b)
    rw [List.foldl_cons]
    have hb : x ≤ mostF m wi x b ∧ (cntM m wi b : Int) ≤ mostF m wi x b ∧ (mostF m wi x b = x ∨ mostF m wi x b = (cntM m wi b : Int)) := by unfold mostF; omega
    refine ⟨by omega, fun a ha => ?_, ?_⟩
    · rcases List.mem_cons.1 ha with rfl | ha
      · omega
      · exact h2 a ha
    · rcases h3 with h3 | ⟨a, ha, h3⟩
      · rcases hb.2.2 with h4 | h4
        · exact Or.inl (by rw [h3, h4])
        · exact Or.inr ⟨b, List.mem_cons_self, by rw [h3, h4]⟩
      · exact Or.inr ⟨a, List.mem_cons_of_mem _ ha, h3⟩
theorem most_is {l : List Int} {wi M : Int} (hw : 0 ≤ wi) (h1 : ∀ a ∈ l, (cntM l wi a : Int) ≤ M) (h2 : M = 0 ∨ ∃ a ∈ l, M ≤ (cntM l wi a : Int)) (h0 : 0 ≤ M) : mostV l wi = M := by
  unfold mostV
  rw [if_neg (by omega)]
  obtain ⟨a1, a2, a3⟩ := fold_most (m := l) (wi := wi) l 0
  rcases h2 with h2 | ⟨a, ha, h2⟩
  · rcases a3 with h3 | ⟨b, hb, h3⟩
    · omega
    · have := h1 b hb; omega
  · have := h1 a ha
    have := a2 a ha
    rcases a3 with h3 | ⟨b, hb, h3⟩
    · omega
    · have := h1 b hb; omega
theorem most_ge {l : List Int} {wi a : Int} (hw : 0 ≤ wi) (ha : a ∈ l) : (cntM l wi a : Int) ≤ mostV l wi := by
  unfold mostV
  rw [if_neg (by omega)]
  exact (fold_most (m := l) (wi := wi) l 0).2.1 a ha
theorem most_at {l : List Int} {wi : Int} (hw : 0 ≤ wi) : mostV l wi = 0 ∨ ∃ a ∈ l, mostV l wi = (cntM l wi a : Int) := by
  unfold mostV
  rw [if_neg (by omega)]
  exact (fold_most (m := l) (wi := wi) l 0).2.2
theorem most_nn {l : List Int} {wi : Int} : 0 ≤ mostV l wi := by
  unfold mostV
  split
  · omega
  · exact (fold_most (m := l) (wi := wi) l 0).1
theorem most_neg {l : List Int} {wi : Int} (hw : wi < 0) : mostV l wi = 0 := if_pos hw
theorem cnt_perm {l m : List Int} (h : l.Perm m) (wi a : Int) : cntM l wi a = cntM m wi a := h.countP_eq _
theorem most_perm {l m : List Int} (h : l.Perm m) (wi : Int) : mostV l wi = mostV m wi := by
  by_cases hw : wi < 0
  · rw [most_neg hw, most_neg hw]
  · refine most_is (by omega) (fun a ha => ?_) ?_ most_nn
    · rw [cnt_perm h]; exact most_ge (by omega) (h.mem_iff.1 ha)
    · rcases most_at (l := m) (wi := wi) (by omega) with h1 | ⟨a, ha, h1⟩
      · exact Or.inl h1
      · exact Or.inr ⟨a, h.mem_iff.2 ha, by rw [cnt_perm h]; omega⟩
theorem cnt_map (l : List Int) (wi a by_ : Int) : cntM (l.map (· + by_)) wi (a + by_) = cntM l wi a := by
  unfold cntM
  rw [List.countP_map]
  congr 1
  funext b
  simp only [Function.comp]
  rw [decide_eq_decide.2 (show a + by_ ≤ b + by_ ↔ a ≤ b by omega), decide_eq_decide.2 (show b + by_ - (a + by_) ≤ wi ↔ b - a ≤ wi by omega)]
theorem most_map (l : List Int) (wi by_ : Int) : mostV (l.map (· + by_)) wi = mostV l wi := by
  by_cases hw : wi < 0
  · rw [most_neg hw, most_neg hw]
  · refine most_is (by omega) (fun a ha => ?_) ?_ most_nn
    · obtain ⟨b, hb, rfl⟩ := List.mem_map.1 ha
      rw [cnt_map]; exact most_ge (by omega) hb
    · rcases most_at (l := l) (wi := wi) (by omega) with h1 | ⟨a, ha, h1⟩
      · exact Or.inl h1
      · exact Or.inr ⟨a + by_, List.mem_map.2 ⟨a, ha, rfl⟩, by rw [cnt_map]; omega⟩
theorem cnt_first {p : Int → Bool} (hp : ∀ a b : Int, a ≤ b → p b = true → p a = true) : ∀ {S : List Int}, S.Pairwise (· ≤ ·) → ∀ i (hi : i < S.length), (p S[i] = true ↔ i < S.countP p) := by
  intro S
  induction S with
  | nil => intro _ i hi; simp at hi
  | cons a r ih =>
    intro hS i hi
    obtain ⟨ha, hr⟩ := List.pairwise_cons.1 hS
    cases hpa : p a with
    | true =>
      rw [List.countP_cons_of_pos hpa]
      cases i with
      | zero => simp [hpa]
      | succ i =>
        have := ih hr i (by simpa using hi)
        rw [List.getElem_cons_succ, this]
        omega
    | false =>
      have hno : ∀ b ∈ r, ¬ p b = true := fun b hb h => by rw [hp a b (ha b hb) h] at hpa; cases hpa
      rw [List.countP_cons_of_neg (by simp [hpa]), List.countP_eq_zero.2 hno]
      cases i with
      | zero => simp [hpa]
      | succ i =>
        rw [List.getElem_cons_succ]
        exact ⟨fun h => absurd h (hno _ (List.getElem_mem _)), fun h => by omega⟩
theorem cnt_parts (S : List Int) (wi a : Int) (hw : 0 ≤ wi) : cntM S wi a + S.countP (fun b => decide (b < a)) = S.countP (fun b => decide (b ≤ a + wi)) := by
  unfold cntM
  induction S with
  | nil => rfl
  | cons b r ih =>
    simp only [List.countP_cons]
    by_cases h1 : a ≤ b <;> by_cases h2 : b - a ≤ wi <;> simp [h1, h2, show b < a ↔ ¬ a ≤ b by omega, show b ≤ a + wi ↔ b - a ≤ wi by omega] <;> omega
theorem most_sorted {S : List Int} {wi : Int} (hw : 0 ≤ wi) (hS : S.Pairwise (· ≤ ·)) {m : Nat} (hQ : ∀ i (h : i + m < S.length), wi < S[i + m] - (S[i]'(by omega))) (hR : m = 0 ∨ ∃ i, ∃ h : i + m - 1 < S.length, ∃ h0 : i < S.length, S[i + m - 1] - S[i] ≤ wi) : mostV S wi = (m : Int) := by
  have hlt : ∀ (a : Int) i (hi : i < S.length), (S[i] < a ↔ i < S.countP (fun b => decide (b < a))) := fun a i hi => by
    have := cnt_first (p := fun b => decide (b < a)) (fun x y h1 h2 => decide_eq_true (by have := of_decide_eq_true h2; omega)) hS i hi
    rw [← this]; simp
  have hle : ∀ (a : Int) i (hi : i < S.length), (S[i] ≤ a + wi ↔ i < S.countP (fun b => decide (b ≤ a + wi))) := fun a i hi => by
    have := cnt_first (p := fun b => decide (b ≤ a + wi)) (fun x y h1 h2 => decide_eq_true (by have := of_decide_eq_true h2; omega)) hS i hi
    rw [← this]; simp
  refine most_is hw (fun a ha => ?_) ?_ (by omega)
  · have h1 := cnt_parts S wi a hw
    have h2 : S.countP (fun b => decide (b ≤ a + wi)) ≤ S.length := List.countP_le_length
    refine Int.ofNat_le.2 (Nat.not_lt.1 fun hgt => ?_)
    have hp : S.countP (fun b => decide (b < a)) + m < S.length := by omega
    have h3 := hQ _ hp
    have h4 := (hle a _ hp).2 (by omega)
    have h5 := (hlt a (S.countP (fun b => decide (b < a))) (by omega))
    omega
  · rcases hR with h | ⟨i, h, h0, hd⟩
    · exact Or.inl (by omega)
    · refine Or.inr ⟨S[i], List.getElem_mem _, ?_⟩
      have h1 := cnt_parts S wi S[i] hw
      have h2 := hlt S[i] i h0
      have h3 := (hle S[i] _ h).1 (by omega)
      omega
end Go.Proofs.YtafecnlaodgmkaaGreatDoor
namespace Go.Proofs.YtafecnlaodgmkaaGreatDoor
set_option linter.unusedVariables false
set_option linter.unusedSimpArgs false
open Go.ChangeShapes Go.WideShapes Go.ChangeAt Go.RowKit
def crT (i : Nat) : Tri := (60 + 60 * ((i : Int) % 2), false, [67])
def crL (i : Nat) (s : Int) : Lin := ⟨1, s, 0, 0, 0, 0, 0, 0, 0, 0, 60 + 60 * ((i : Int) % 2), false, [67]⟩
def crZ (l : List Int) : Src := ⟨[65], 0, false, [66], l.mapIdx crL⟩
def crE (l : List Int) : List Chg := l.mapIdx (fun i s => (s, crT i))
theorem crZ_snoc {l : List Int} {k : Nat} (h : k < l.length) : (l.take (k + 1)).mapIdx crL = (l.take k).mapIdx crL ++ [crL k l[k]] := by
  rw [List.take_succ_eq_append_getElem h, List.mapIdx_concat, List.length_take, Nat.min_eq_left (by omega)]
theorem crE_fst (l : List Int) : (crE l).map (·.1) = l := by
  apply List.ext_getElem (by simp [crE])
  intro i h1 h2
  simp [crE]
theorem crE_at {l : List Int} {e : Chg} (h : e ∈ crE l) : ∃ i, ∃ h : i < l.length, e = (l[i], crT i) := by
  obtain ⟨i, hi, rfl⟩ := List.mem_iff_getElem.1 h
  have hi2 : i < l.length := by simpa [crE] using hi
  exact ⟨i, hi2, by simp [crE]⟩
theorem crL_at {l : List Int} {i : Nat} {m : Lin} (h : (l.mapIdx crL)[i]? = some m) : ∃ h : i < l.length, m = crL i l[i] := by
  have hi : i < l.length := by
    have := (List.getElem?_eq_some_iff.1 h).1
    simpa using this
  refine ⟨hi, ?_⟩
  rw [List.getElem?_mapIdx, List.getElem?_eq_getElem hi] at h
  simpa using h.symm
theorem crL_ok (i : Nat) {s : Int} (h : -377705116800 ≤ s ∧ s ≤ 253402300799) : OkL (crL i s) :=
  ⟨Or.inl ⟨rfl, rfl, rfl, rfl, rfl, rfl, rfl, rfl, rfl, h.1, h.2⟩, by show -64800 ≤ 60 + 60 * ((i : Int) % 2); omega, by show 60 + 60 * ((i : Int) % 2) ≤ 64800; omega, (by decide +kernel : abbE [67] = 0)⟩
theorem crZ_ok {l : List Int} (hn : l.length ≤ 16) (hb : ∀ s ∈ l, -377705116800 ≤ s ∧ s ≤ 253402300799) : OkS (crZ l) := by
  refine ⟨by simpa [crZ] using hn, ?_, (by decide +kernel : namE [65] = 0), ⟨(by decide : (-64800 : Int) ≤ 0), (by decide : (0 : Int) ≤ 64800), (by decide +kernel : abbE [66] = 0)⟩, rfl, fun m hm => ?_⟩
  · have e : (crZ l).lns.filter (fun x => x.t == 1048576) = [] := by
      rw [List.filter_eq_nil_iff]
      intro m hm
      obtain ⟨i, hi⟩ := List.mem_iff_getElem?.1 hm
      obtain ⟨h, rfl⟩ := crL_at hi
      exact (by decide : ¬ ((0 : Int) == 1048576) = true)
    unfold tailN
    rw [e]
    decide
  · obtain ⟨i, hi⟩ := List.mem_iff_getElem?.1 hm
    obtain ⟨h, rfl⟩ := crL_at hi
    exact crL_ok i (hb _ (List.getElem_mem h))
theorem cr_mom (YF : Int → Int) (i : Nat) {s : Int} (h : -377705116800 ≤ s ∧ s ≤ 253402300799) : momB YF (crL i s) (YF s) s := by
  refine ⟨?_, h.1, h.2⟩
  unfold atV
  rw [if_pos (show (crL i s).k = 1 from rfl), if_pos ⟨h, rfl⟩]
  rfl
theorem cr_ev (YF : Int → Int) {l : List Int} (hr : l.Pairwise (· < ·)) (hb : ∀ s ∈ l, -377705116800 ≤ s ∧ s ≤ 253402300799) : IsEv YF (crZ l).lns (-377705116800) 253402300799 (crE l) where
  rise := by rw [crE_fst]; exact hr
  each e he := by
    obtain ⟨i, hi, rfl⟩ := crE_at he
    have h1 := hb _ (List.getElem_mem hi)
    refine ⟨h1.1, h1.2, i, crL i l[i], ?_, ⟨YF l[i], cr_mom YF i h1⟩, rfl, fun j m hij hj y hm => ?_⟩
    · show (l.mapIdx crL)[i]? = _
      rw [List.getElem?_mapIdx, List.getElem?_eq_getElem hi]; rfl
    · obtain ⟨hj2, rfl⟩ := crL_at hj
      have h2 := (mom_at (by rfl) hm).1
      have h3 := List.pairwise_iff_getElem.1 hr i j hi hj2 hij
      have h4 : l[i] = l[j] := h2
      omega
  all i m y s hi hm h1 h2 := by
    obtain ⟨hi2, rfl⟩ := crL_at hi
    have h3 : s = l[i] := (mom_at (by rfl) hm).1
    refine ⟨(l[i], crT i), ?_, h3.symm⟩
    unfold crE
    rw [List.mem_iff_getElem]
    exact ⟨i, by simpa using hi2, by simp⟩
theorem aln_all : ∀ (l : List Int) (f : Nat → Tri) (was : Tri), (∀ i, f i ≠ f (i + 1)) → f 0 ≠ was → alnL (l.mapIdx (fun i s => (s, f i))) was = l.mapIdx (fun i s => (s, f i)) := by
  intro l
  induction l with
  | nil => intro f was _ _; rfl
  | cons a r ih =>
    intro f was hf h0
    rw [List.mapIdx_cons]
    show (if f 0 = was then _ else _) = _
    rw [if_neg h0]
    exact congrArg _ (ih (fun i => f (i + 1)) (f 0) (fun i => hf (i + 1)) (fun h => hf 0 h.symm))
theorem crT_ne (i : Nat) : crT i ≠ crT (i + 1) := by
  intro h
  have h1 : 60 + 60 * ((i : Int) % 2) = 60 + 60 * (((i + 1 : Nat) : Int) % 2) := congrArg Prod.fst h
  omega
theorem aln_cr (l : List Int) : alnL (crE l) (0, false, [66]) = crE l :=
  aln_all l crT _ crT_ne (fun h => by
    have h1 : [67] = ([66] : List UInt8) := congrArg (fun x : Tri => x.2.2) h
    exact absurd h1 (by decide))
theorem cr_sta : staI (-9999) = -377705116800 := by rw [sta_yst, yst_bounds.1]; decide
theorem cr_end : endI 9999 = 253402300799 := by unfold endI; rw [if_pos (by decide)]
theorem cr_err {l : List Int} (hn : l.length ≤ 16) (hb : ∀ s ∈ l, -377705116800 ≤ s ∧ s ≤ 253402300799) : evE (crZ l) (-9999) 9999 = 0 := by
  unfold evE
  rw [if_neg (fun k => k ((ckU_zero _).2 (crZ_ok hn hb))), if_neg (by decide), if_neg (by decide)]
theorem cr_main {YF : Int → Int} {l : List Int} (hn : l.length ≤ 16) (hr : l.Pairwise (· < ·)) (hb : ∀ s ∈ l, -377705116800 ≤ s ∧ s ≤ 253402300799) {M : List Chg} (h : ChP YF (crZ l) (-9999) 9999 M) : M.map (·.1) = l := by
  obtain ⟨L, hL, rfl⟩ := h
  unfold EvP at hL
  rw [if_pos (cr_err hn hb), cr_sta, cr_end] at hL
  have e := hL.uniq (cr_ev YF hr hb)
  subst e
  unfold wasT
  rw [if_neg (by rw [cr_sta]; decide)]
  show (alnL (crE l) (0, false, [66])).map (·.1) = l
  rw [aln_cr, crE_fst]
end Go.Proofs.YtafecnlaodgmkaaGreatDoor
namespace Go.Proofs.YtafecnlaodgmkaaGreatDoor
set_option linter.unusedVariables false
set_option linter.unusedSimpArgs false
open Go.ChangeShapes Go.WideShapes Go.ChangeAt Go.RowKit
set_option maxHeartbeats 6400000 in
set_option maxRecDepth 100000 in
theorem rAt18_any (l : List Int) (A : Option Addr) (c : Nat) (hl : ∀ a ∈ l, -9223372036854775808 ≤ a ∧ a < 9223372036854775808) (hn : l.length ≤ 1000000) (w : World) (h : Rd w A (intVs l)) :
    Calls Tryz.prog 12 #[.slice A l.length c] w fun e w' => ∃ A2 c2, e = .returned (srcV (crZ l) A2 c2) ∧ Rd w' A2 (linVs (crZ l).lns) ∧ Below w.heap.size w w' := by
  obtain ⟨i0, hi, hz0, hz1, hz2⟩ := info_parts infoLin
  have hH := Lib.hid h
  have hl2 := Lib.hid hl
  clear h hl
  go_enter Tryz.func12, Tryz.ntmps12
  go_wp2_with fail
  have HS0 : Hid (SrH (w.heap.size + 1) (w.alloc (Obj.cells #[Value.string ⟨#[]⟩, Value.int .i64 0, Value.bool false, Value.string ⟨#[]⟩, Value.slice none 0 0] 30)) ((w.alloc (Obj.cells #[Value.string ⟨#[]⟩, Value.int .i64 0, Value.bool false, Value.string ⟨#[]⟩, Value.slice none 0 0] 30)).alloc (Obj.cells #[Value.string ⟨#[65]⟩, Value.int .i64 0, Value.bool false, Value.string ⟨#[66]⟩, Value.slice none 0 0] 30)) (w.heap.size + 1) (crZ (l.take 0)) (.slice none 0 0)) := Lib.hid ⟨by
      have e1 : bs [65] = ⟨#[65]⟩ := by unfold bs; rfl
      have e2 : bs [66] = ⟨#[66]⟩ := by unfold bs; rfl
      show _ = some (Obj.cells #[.string (bs [65]), .int .i64 0, .bool false, .string (bs [66]), _] _ _)
      rw [e1, e2]
      have := heap_alloc_new (w.alloc (Obj.cells #[Value.string ⟨#[]⟩, Value.int .i64 0, Value.bool false, Value.string ⟨#[]⟩, Value.slice none 0 0] 30)) (Obj.cells #[Value.string ⟨#[65]⟩, Value.int .i64 0, Value.bool false, Value.string ⟨#[66]⟩, Value.slice none 0 0] 30)
      simpa using this, World.ownsRow_nil _ _ _ _, Nat.le_refl _, (Below.refl _ _).alloc (by simp) _, by simp⟩
  have hB0 : Hid (Below w.heap.size w (w.alloc (Obj.cells #[Value.string ⟨#[]⟩, Value.int .i64 0, Value.bool false, Value.string ⟨#[]⟩, Value.slice none 0 0] 30))) := Lib.hid ((Below.refl _ w).alloc (Nat.le_refl _) _)
  go_loopw [4] (fun i wr => ∃ (k : Nat) (v : Value), k ≤ l.length ∧ i = .int .i64 (k : Int) ∧ Hid (SrH (w.heap.size + 1) (w.alloc (Obj.cells #[Value.string ⟨#[]⟩, Value.int .i64 0, Value.bool false, Value.string ⟨#[]⟩, Value.slice none 0 0] 30)) wr (w.heap.size + 1) (crZ (l.take k)) v)) (fun i _ => l.length - (intOf i).toNat)
  case atStart => exact ⟨0, _, by omega, rfl, HS0⟩
  case round =>
    obtain ⟨k, v, hk, rfl, HS⟩ := hrel
    obtain ⟨V20, rfl⟩ : ∃ V, V = wr := ⟨_, rfl⟩
    clear HS0
    obtain ⟨z, hz⟩ : ∃ z, z = crZ (l.take k) := ⟨_, rfl⟩
    have hzl : z.lns.length = k := by rw [hz]; simp [crZ]; omega
    have hzl1 : z.lns.length ≤ k := by omega
    have hzl2 : k ≤ z.lns.length := by omega
    rw [← hz] at HS
    clear hzl
    by_cases hlt : k < l.length
    · have hkT : (k : Int) < (l.length : Int) := by omega
      obtain ⟨b, o, rfl, hbl, hc⟩ := hH.out.ints hlt
      have hB20 := Lib.hid (hB0.out.trans (HS.out.bel.mono (by omega)))
      have k0 : V20.cell? ⟨b, o + k, none⟩ = some (.int .i64 l[k]) := (hB20.out.cell (p := ⟨b, o + k, none⟩) hbl).trans (hc k hlt)
      have hzn : crZ (l.take (k + 1)) = { z with lns := z.lns ++ [crL k l[k]] } := by rw [hz]; unfold crZ; rw [crZ_snoc hlt]
      obtain ⟨A0, c0, g0, rfl, -⟩ := own_form HS.out.own
      have hov := HS.out.own
      have hsz := HS.out.sz
      have c42 : V20.cell? ⟨w.heap.size + 1, 4, none⟩ = some (.slice A0 z.lns.length c0) := by rw [Lib.cell_of_heap HS.out.row]; rfl
      have c43 : ∀ o, (V20.alloc o).cell? ⟨w.heap.size + 1, 4, none⟩ = some (.slice A0 z.lns.length c0) := fun o => by rw [Lib.cell_of_heap (HS.out.alloc o).row]; rfl
      have f42 : V20.frozen? ⟨w.heap.size + 1, 4, none⟩ = false := Lib.frozen_of_heap HS.out.row 4
      obtain ⟨r, hr⟩ : ∃ r : Int, (k : Int).tmod 2 = r := ⟨_, rfl⟩
      have hr2 : r = (k : Int) % 2 := by rw [← hr, Int.tmod_eq_emod_of_nonneg (by omega)]
      have hrb : 0 ≤ r ∧ r ≤ 1 := by omega
      have fr : IntKind.i64.wrap r = r := by rw [IntKind.wrap_i64]; omega
      have fr1 : IntKind.i64.wrap (60 * r) = 60 * r := by rw [IntKind.wrap_i64]; omega
      have fr2 : IntKind.i64.wrap (60 + 60 * r) = 60 + 60 * r := by rw [IntKind.wrap_i64]; omega
      have fk : IntKind.i64.wrap ((k : Int) + 1) = (k : Int) + 1 := by rw [IntKind.wrap_i64]; omega
      have hlv : Hid (linV (crL k l[k]) = [.int .i64 1, .int .i64 l[k], .int .i64 0, .int .i64 0, .int .i64 0, .int .i64 0, .int .i64 0, .int .i64 0, .int .i64 0, .int .i64 0, .int .i64 (60 + 60 * r), .bool false, .string ⟨#[67]⟩]) := Lib.hid (by
        have e1 : bs [67] = ⟨#[67]⟩ := by unfold bs; rfl
        unfold linV crL strV
        rw [e1, hr2])
      replace hzn := Lib.hid hzn
      replace hr2 := Lib.hid hr2
      replace hz := Lib.hid hz
      generalize crL k l[k] = ln at *
      generalize l[k] = s at *
      clear hc
      go_wp2_with fail
      go_region_law
        ((refine step_append_lies _ (by rfl) _ _ _ (by rfl) (w.heap.size + 1) 58 i0 (.agg #[.int .i64 0, .int .i64 0, .int .i64 0, .int .i64 0, .int .i64 0, .int .i64 0, .int .i64 0, .int .i64 0, .int .i64 0, .int .i64 0, .int .i64 0, .bool false, .string ⟨#[]⟩]) 13 112 Tryz.underlying28 hi hz0 hz1 hz2 rfl (by omega) (.slice A0 z.lns.length c0) z.lns.length (linVs z.lns) (by rfl) ((hov.alloc _).drew)
            ⟨V20.heap.size, 0, none⟩ 1 1 [.int .i64 1, .int .i64 s, .int .i64 0, .int .i64 0, .int .i64 0, .int .i64 0, .int .i64 0, .int .i64 0, .int .i64 0, .int .i64 0, .int .i64 (60 + 60 * r), .bool false, .string ⟨#[67]⟩] (by rfl) (by rfl) (World.news_of_block (cs := #[.int .i64 1, .int .i64 s, .int .i64 0, .int .i64 0, .int .i64 0, .int .i64 0, .int .i64 0, .int .i64 0, .int .i64 0, .int .i64 0, .int .i64 (60 + 60 * r), .bool false, .string ⟨#[67]⟩]) (t := 58) (fr := (0, 0)) (heap_alloc_new V20 _)) (by simp [Value.oneCell'])
            (by omega) (by unfold maxLen; omega) (by omega) (by simp; omega) (V20.heap.size + 1) (by simp) ?_; intro gg cap w1 hown1 hgrow hat hlt1; (have HT := Lib.hid (HS.out.drew.app ln (by rw [hlv.out]; exact hown1) hgrow)); (have d0 : w1.cell? ⟨w.heap.size + 1, 4, none⟩ = some (.slice A0 z.lns.length c0) := by rw [Lib.cell_of_heap HT.out.1]; rfl); (have e0 : w1.frozen? ⟨w.heap.size + 1, 4, none⟩ = false := Lib.frozen_of_heap HT.out.1 4)))
      all_goals
        go_wp2
        go_roundw
        case rel => exact ⟨k + 1, _, by omega, by go_num, Lib.hid (by rw [hzn.out]; exact HT.out.2)⟩
        case measure => simp [intOf]; omega
    · obtain rfl : k = l.length := by omega
      rw [List.take_length] at hz
      subst hz
      obtain ⟨A0, c0, g0, rfl, -⟩ := own_form HS.out.own
      have hrow := HS.out.row
      have hres : V20.heap[w.heap.size]? = some (Obj.cells #[Value.string ⟨#[]⟩, Value.int .i64 0, Value.bool false, Value.string ⟨#[]⟩, Value.slice none 0 0] 30 (0, 0)) := (HS.out.bel.block w.heap.size (by omega)).trans (heap_alloc_new w _)
      have hgn : ∀ g, Value.ownBlock (.slice A0 (crZ l).lns.length c0) = some g → g ≠ w.heap.size := fun g hg e => by
        have := (HS.out.own.lt g hg).1
        omega
      have hbel := Lib.hid (hB0.out.trans (HS.out.bel.mono (by omega)))
      have hown := Lib.hid HS.out.own
      generalize hnn : (crZ l).lns.length = nn at *
      generalize hxx : linVs (crZ l).lns = xx at *
      have q0 : V20.cell? ⟨w.heap.size + 1, 0, none⟩ = some (.string (bs [65])) := by rw [Lib.cell_of_heap hrow]; rfl
      have q1 : V20.cell? ⟨w.heap.size + 1, 1, none⟩ = some (.int .i64 0) := by rw [Lib.cell_of_heap hrow]; rfl
      have q2 : V20.cell? ⟨w.heap.size + 1, 2, none⟩ = some (.bool false) := by rw [Lib.cell_of_heap hrow]; rfl
      have q3 : V20.cell? ⟨w.heap.size + 1, 3, none⟩ = some (.string (bs [66])) := by rw [Lib.cell_of_heap hrow]; rfl
      have q4 : V20.cell? ⟨w.heap.size + 1, 4, none⟩ = some (.slice A0 nn c0) := by rw [Lib.cell_of_heap hrow]; rfl
      have rr : (V20.setRow w.heap.size #[Value.string (bs [65]), Value.int .i64 0, Value.bool false, Value.string (bs [66]), Value.slice A0 nn c0]).heap[w.heap.size]? = some (Obj.cells #[Value.string (bs [65]), Value.int .i64 0, Value.bool false, Value.string (bs [66]), Value.slice A0 nn c0] 30 (0, 0)) := setRow_heap V20 w.heap.size _ _ _ _ hres
      have hbel2 : Hid (Below w.heap.size w (V20.setRow w.heap.size #[Value.string (bs [65]), Value.int .i64 0, Value.bool false, Value.string (bs [66]), Value.slice A0 nn c0])) := Lib.hid (keepRow hbel.out (Nat.le_refl _) _)
      have hown2 : Hid (Rd (V20.setRow w.heap.size #[Value.string (bs [65]), Value.int .i64 0, Value.bool false, Value.string (bs [66]), Value.slice A0 nn c0]) A0 xx) := Lib.hid (Rd.own (own_stay hown.out (fun g hg => row_otherR (hgn g hg) rfl _)))
      replace hnn := Lib.hid hnn
      replace hxx := Lib.hid hxx
      clear HS hrow hgn hlt
      go_wp2_with (refine wpList_store_row (by rfl) 30 _ _ (by rfl) w.heap.size #[Value.string (bs [65]), Value.int .i64 0, Value.bool false, Value.string (bs [66]), Value.slice A0 nn c0] (by rfl) (by rfl) _ _ hres (by kernel_rfl) (by rfl) (by simp [Value.oneCell']) ?_)
      generalize V20.setRow w.heap.size #[Value.string (bs [65]), Value.int .i64 0, Value.bool false, Value.string (bs [66]), Value.slice A0 nn c0] = V2 at *
      have r0 : V2.cell? ⟨w.heap.size, 0, none⟩ = some (.string (bs [65])) := cry rr
      have r1 : V2.cell? ⟨w.heap.size, 1, none⟩ = some (.int .i64 0) := cry rr
      have r2 : V2.cell? ⟨w.heap.size, 2, none⟩ = some (.bool false) := cry rr
      have r3 : V2.cell? ⟨w.heap.size, 3, none⟩ = some (.string (bs [66])) := cry rr
      have r4 : V2.cell? ⟨w.heap.size, 4, none⟩ = some (.slice A0 nn c0) := cry rr
      clear rr hres q0 q1 q2 q3 q4
      go_wp2
      refine bodyPost_ret (v := .agg #[.string (bs [65]), .int .i64 0, .bool false, .string (bs [66]), .slice A0 nn c0]) (by simp [results, Tryz.results12, go_sem, r0, r1, r2, r3, r4]) rfl ?_
      have e1 := hnn.out
      have e2 := hxx.out
      subst e1 e2
      exact ⟨A0, c0, rfl, hown2.out, hbel2.out⟩
end Go.Proofs.YtafecnlaodgmkaaGreatDoor
namespace Go.Proofs.YtafecnlaodgmkaaGreatDoor
set_option linter.unusedVariables false
set_option linter.unusedSimpArgs false
open Go.ChangeShapes Go.WideShapes Go.ChangeAt Go.RowKit
set_option maxHeartbeats 3200000 in
theorem xFits_any (g o k c : Nat) (a b wi : Int) (ha : -9223372036854775808 ≤ a) (hb : b < 9223372036854775808) (hw : -9223372036854775808 ≤ wi ∧ wi < 9223372036854775808) (hab : a ≤ b) (hk : 1 ≤ k) (hk2 : k ≤ 1000000000000) (w : World) (h0 : w.cell? ⟨g, o, none⟩ = some (.int .i64 a)) (h1 : w.cell? ⟨g, o + (k - 1), none⟩ = some (.int .i64 b)) :
    Calls Tryz.prog 16 #[.slice (some ⟨g, o, none⟩) k c, .int .i64 wi] w fun e w' => e = .returned (.bool (decide (0 ≤ wi) && decide (b - a ≤ wi))) ∧ Below w.heap.size w w' := by
  obtain ⟨j, hj⟩ : ∃ j, k = j + 1 := ⟨k - 1, by omega⟩
  rw [show k - 1 = j by omega] at h1
  have fw : IntKind.i64.wrap ((k : Int) - 1) = (j : Int) := by rw [IntKind.wrap_i64]; omega
  have hjk : (j : Int) < (k : Int) := by omega
  have h0k : (0 : Int) < (k : Int) := by omega
  have hBd := Lib.hid (fun q => Lib.hid (dwn18 (Below.refl w.heap.size w) q))
  replace hj := Lib.hid hj
  obtain ⟨ua, f1⟩ : ∃ ua, IntKind.u64.wrap a = ua := ⟨_, rfl⟩
  obtain ⟨ub, f2⟩ : ∃ ub, IntKind.u64.wrap b = ub := ⟨_, rfl⟩
  have f3 : IntKind.u64.wrap (ub - ua) = b - a := by
    rw [← f1, ← f2]
    simp only [IntKind.wrap_u64]
    omega
  by_cases hn : 0 ≤ wi
  · have d0 : decide (0 ≤ wi) = true := decide_eq_true hn
    have fwi : IntKind.u64.wrap wi = wi := by rw [IntKind.wrap_u64]; omega
    rw [d0, Bool.true_and]
    go_enter Tryz.func16, Tryz.ntmps16
    go_wp2_with fail
    go_quiet (fail)
    go_wp2
    go_ret
    exact ⟨rfl, (hBd.out _).out⟩
  · have d0 : decide (0 ≤ wi) = false := decide_eq_false hn
    rw [d0, Bool.false_and]
    go_enter Tryz.func16, Tryz.ntmps16
    go_wp2_with fail
    go_quiet (fail)
    go_wp2
    go_ret
    exact ⟨rfl, (hBd.out _).out⟩
def fitP (S : List Int) (wi : Int) (i j : Nat) : Prop := 0 ≤ wi ∧ S.getD j 0 - S.getD i 0 ≤ wi
theorem getD_at {S : List Int} {i : Nat} (h : i < S.length) : S.getD i 0 = S[i] := by simp [List.getD, List.getElem?_eq_getElem h]
theorem fit_next {S : List Int} (hS : S.Pairwise (· ≤ ·)) {wi : Int} {i j : Nat} (h : j + 1 < S.length) (hf : ¬ fitP S wi i j) : ¬ fitP S wi i (j + 1) := by
  intro h2
  refine hf ⟨h2.1, ?_⟩
  have h3 := h2.2
  rw [getD_at h] at h3
  rw [getD_at (show j < S.length by omega)]
  have := List.pairwise_iff_getElem.1 hS j (j + 1) (by omega) h (by omega)
  omega
theorem most_end {S : List Int} (hS : S.Pairwise (· ≤ ·)) {wi : Int} {m : Nat} (hQ : ∀ i, i + m < S.length → ¬ fitP S wi i (i + m)) (hR : m = 0 ∨ ∃ i, i + m - 1 < S.length ∧ fitP S wi i (i + m - 1)) : mostV S wi = (m : Int) := by
  by_cases hw : wi < 0
  · rw [most_neg hw]
    rcases hR with h | ⟨i, _, h, _⟩
    · omega
    · omega
  · refine most_sorted (by omega) hS (fun i h => ?_) ?_
    · have h2 := hQ i h
      unfold fitP at h2
      rw [getD_at h, getD_at (show i < S.length by omega)] at h2
      omega
    · rcases hR with h | ⟨i, h, _, h2⟩
      · exact Or.inl h
      · by_cases h0 : m = 0
        · exact Or.inl h0
        · have hi : i < S.length := by omega
          rw [getD_at h, getD_at hi] at h2
          exact Or.inr ⟨i, h, hi, h2⟩
end Go.Proofs.YtafecnlaodgmkaaGreatDoor
namespace Go.Proofs.YtafecnlaodgmkaaGreatDoor
set_option linter.unusedVariables false
set_option linter.unusedSimpArgs false
open Go.ChangeShapes Go.WideShapes Go.ChangeAt Go.RowKit
set_option maxRecDepth 100000 in
theorem slice_three (g k t u n c : Nat) (hk : k < t) (ht : t ≤ c) (hu : u = t - k) (W : World) :
    (Instr.slice 22 (.slice (some ⟨g, 0, none⟩) n c) (some (.int .i64 (k : Int))) (some (.int .i64 (t : Int))) (some (.int .i64 (t : Int)))).run Tryz.prog W = .ok (.slice (some ⟨g, k, none⟩) u u) W := by
  subst hu
  rw [run_slice_lhm (P := Tryz.prog) W 22 (some ⟨g, 0, none⟩) n c Tryz.underlying22 .i64 .i64 .i64 k t t (by omega) (by omega) (by omega) (by omega)]
  have e : (sizeOf (Tryz.prog.elem 22)).run Tryz.prog W = .ok 1 W := by kernel_rfl
  rw [e]
  show Result.ok (sliced _ _ _ _ _) W = _
  unfold sliced
  rw [if_neg (by omega), Int.toNat_natCast, Int.toNat_natCast]
  have ea : (⟨g, 0, none⟩ : Addr).add (k * 1) = ⟨g, k, none⟩ := by unfold Addr.add; split <;> simp_all
  rw [Option.map_some, ea]
theorem sort_len (l : List Int) : (l.mergeSort (fun x y => decide (x ≤ y))).length = l.length := List.length_mergeSort _
theorem sort_perm (l : List Int) : (l.mergeSort (fun x y => decide (x ≤ y))).Perm l := List.mergeSort_perm _ _
theorem sort_rise (l : List Int) : (l.mergeSort (fun x y => decide (x ≤ y))).Pairwise (· ≤ ·) := by
  have h := List.pairwise_mergeSort (le := fun x y : Int => decide (x ≤ y)) (fun a b c h1 h2 => decide_eq_true (by have := of_decide_eq_true h1; have := of_decide_eq_true h2; omega)) (fun a b => by simp; omega) l
  exact h.imp (fun h => of_decide_eq_true h)
set_option maxHeartbeats 12800000 in
set_option maxRecDepth 100000 in
theorem most_walk (l : List Int) (wi : Int) (A : Option Addr) (c : Nat) (hl : ∀ a ∈ l, -9223372036854775808 ≤ a ∧ a < 9223372036854775808) (hw : -9223372036854775808 ≤ wi ∧ wi < 9223372036854775808) (hn : l.length ≤ 1000000000000)
    (HCl : ∀ w, Rd w A (intVs l) → Calls Tryz.prog 14 #[.slice A l.length c] w fun e w' => ∃ A' c', e = .returned (.slice A' l.length c') ∧ w'.ownsRow w.heap.size 3 1 (.slice A' l.length c') l.length (intVs l) ∧ Below w.heap.size w w')
    (HSo : ∀ B A' c' w, w.ownsRow B 3 1 (.slice A' l.length c') l.length (intVs l) → B ≤ w.heap.size → Calls Tryz.prog 15 #[.slice A' l.length c'] w fun e w' => e = .returned (.tuple #[]) ∧ w'.ownsRow B 3 1 (.slice A' l.length c') l.length (intVs (l.mergeSort (fun x y => decide (x ≤ y)))) ∧ Below B w w')
    (w : World) (h : Rd w A (intVs l)) :
    Calls Tryz.prog 8 #[.slice A l.length c, .int .i64 wi] w fun e w' => e = .returned (.int .i64 (mostV l wi)) ∧ Below w.heap.size w w' := by
  have E : Hid (∀ m : Nat, (∀ i, i + m < l.length → ¬ fitP (l.mergeSort (fun x y => decide (x ≤ y))) wi i (i + m)) → (m = 0 ∨ ∃ i, i + m - 1 < l.length ∧ fitP (l.mergeSort (fun x y => decide (x ≤ y))) wi i (i + m - 1)) → mostV l wi = (m : Int)) :=
    Lib.hid (fun m hQ hR => by
      rw [← most_perm (sort_perm l)]
      refine most_end (sort_rise l) (fun i hi => hQ i (by rwa [sort_len] at hi)) ?_
      rw [sort_len]; exact hR)
  have hSl := sort_len l
  have hSr := Lib.hid (sort_rise l)
  have hSb := Lib.hid (fun a (ha : a ∈ l.mergeSort (fun x y => decide (x ≤ y))) => hl a ((sort_perm l).mem_iff.1 ha))
  have hF := Lib.hid (fun g o k c a b (ha : -9223372036854775808 ≤ a) (hb : b < 9223372036854775808) (hab : a ≤ b) hk hk2 w => xFits_any g o k c a b wi ha hb hw hab hk hk2 w)
  have hH := Lib.hid h
  replace HCl := Lib.hid HCl
  replace HSo := Lib.hid HSo
  clear hl h hw
  generalize l.mergeSort (fun x y => decide (x ≤ y)) = S at *
  generalize mostV l wi = R at *
  go_enter Tryz.func8, Tryz.ntmps8
  go_wp2_with fail
  refine (HCl.out w hH.out).mono ?_
  rintro e w1 ⟨A1, c1, rfl, hown, hb1⟩
  replace hown := Lib.hid hown
  replace hb1 := Lib.hid hb1
  go_simp
  go_wp2_with fail
  refine (HSo.out w.heap.size A1 c1 w1 hown.out hb1.out.size).mono ?_
  rintro e w2 ⟨rfl, hown2, hb2⟩
  have hBw := Lib.hid (hb1.out.trans hb2)
  have hcap : l.length = 0 ∨ ∃ g, A1 = some ⟨g, 0, none⟩ ∧ l.length ≤ c1 := by
    rcases hown2.2 with ⟨_, h0⟩ | ⟨g, cap, cur, hv, _, _, h1, _⟩
    · exact Or.inl h0
    · injection hv with e1 e2 e3
      exact Or.inr ⟨g, e1, by omega⟩
  have hRd := Lib.hid (Rd.own hown2)
  have hws := hBw.out.size
  clear hown hb1 hb2 hown2 HCl HSo hH
  go_simp
  go_wp2
  go_loopw [6, 15] (fun m i wr => ∃ k m' : Nat, k ≤ l.length ∧ i = .int .i64 (k : Int) ∧ m = .int .i64 (m' : Int) ∧ m' ≤ l.length ∧ Hid (∀ i, i < k → i + m' < l.length → ¬ fitP S wi i (i + m')) ∧ Hid (m' = 0 ∨ ∃ i, i + m' - 1 < l.length ∧ fitP S wi i (i + m' - 1)) ∧ Hid (Below w2.heap.size w2 wr)) (fun _ i _ => l.length - (intOf i).toNat)
  case atStart => exact ⟨0, 0, by omega, rfl, rfl, by omega, Lib.hid (fun i hi => by omega), Lib.hid (Or.inl rfl), Lib.hid (Below.refl _ _)⟩
  case round =>
    obtain ⟨k, m', hk, rfl, rfl, hm, hQ, hR, B20⟩ := hrel
    obtain ⟨V20, rfl⟩ : ∃ V, V = wr := ⟨_, rfl⟩
    by_cases hlt : k < l.length
    · have hkT : (k : Int) < (l.length : Int) := by omega
      have f1 : IntKind.i64.wrap ((k : Int) + (m' : Int)) = (k : Int) + (m' : Int) := by rw [IntKind.wrap_i64]; omega
      obtain ⟨t0, ht0⟩ : ∃ t0 : Nat, t0 = k + m' + 1 := ⟨_, rfl⟩
      have f2 : IntKind.i64.wrap ((k : Int) + (m' : Int) + 1) = (t0 : Int) := by rw [IntKind.wrap_i64]; omega
      have ht1 : k + m' + 1 ≤ t0 := by omega
      have ht2 : t0 ≤ k + m' + 1 := by omega
      clear ht0
      go_wp2
      go_loopw [6, 8] (fun m t wr => ∃ m' t' : Nat, m = .int .i64 (m' : Int) ∧ t = .int .i64 (t' : Int) ∧ k + m' + 1 ≤ t' ∧ t' ≤ k + m' + 1 ∧ m' ≤ l.length ∧ Hid (∀ i, i < k → i + m' < l.length → ¬ fitP S wi i (i + m')) ∧ Hid (m' = 0 ∨ ∃ i, i + m' - 1 < l.length ∧ fitP S wi i (i + m' - 1)) ∧ Hid (Below w2.heap.size w2 wr)) (fun _ t _ => l.length + 1 - (intOf t).toNat)
      case atStart => exact ⟨m', t0, rfl, rfl, ht1, ht2, hm, hQ, hR, B20⟩
      case round =>
        obtain ⟨m', t', rfl, rfl, hu1, hu2, hkm, hQ, hR, B30⟩ := hrel
        obtain ⟨V30, rfl⟩ : ∃ V, V = wr := ⟨_, rfl⟩
        clear B20
        by_cases htn : t' ≤ l.length
        · have dt : decide ((t' : Int) ≤ (l.length : Int)) = true := decide_eq_true (by omega)
          obtain ⟨g, rfl, hgc⟩ := hcap.resolve_left (by omega)
          obtain ⟨b0, o0, hA, hbl, hc⟩ := hRd.out.ints (k := k) (by omega)
          obtain ⟨rfl, rfl⟩ : g = b0 ∧ 0 = o0 := by simpa using hA
          obtain ⟨u, hu⟩ : ∃ u, u = t' - k := ⟨_, rfl⟩
          have hsl := fun W => slice_three g k t' u l.length c1 (by omega) (by omega) hu W
          have k0 : V30.cell? ⟨g, k, none⟩ = some (.int .i64 S[k]) := (B30.out.cell (p := ⟨g, k, none⟩) hbl).trans (by have := hc k (by omega); rwa [Nat.zero_add] at this)
          have k1 : V30.cell? ⟨g, k + (u - 1), none⟩ = some (.int .i64 S[k + (u - 1)]) := (B30.out.cell (p := ⟨g, k + (u - 1), none⟩) hbl).trans (by have := hc (k + (u - 1)) (by omega); rwa [Nat.zero_add] at this)
          have a0 := hSb.out S[k] (List.getElem_mem _)
          have a1 := hSb.out S[k + (u - 1)] (List.getElem_mem _)
          have hab : S[k] ≤ S[k + (u - 1)] := by
            by_cases e : u = 1
            · subst e; exact Int.le_refl _
            · exact List.pairwise_iff_getElem.1 hSr.out k (k + (u - 1)) (by omega) (by omega) (by omega)
          have HF := hF.out g k u u S[k] S[k + (u - 1)] a0.1 a1.2 hab (by omega) (by omega) V30 k0 k1
          have ef : fitP S wi k (k + m') ↔ (0 ≤ wi ∧ S[k + (u - 1)] - S[k] ≤ wi) := by
            rw [show k + m' = k + (u - 1) by omega]
            unfold fitP
            rw [getD_at (show k < S.length by omega), getD_at (show k + (u - 1) < S.length by omega)]
          by_cases hfit : fitP S wi k (k + m')
          · rw [decide_eq_true (ef.1 hfit).1, decide_eq_true (ef.1 hfit).2, Bool.true_and] at HF
            replace HF := Lib.hid HF
            have hQ2 := Lib.hid (fun i (hi : i < k) (h2 : i + (m' + 1) < l.length) => fit_next hSr.out (by omega) (hQ.out i hi (by omega)))
            have hR2 : Hid (m' + 1 = 0 ∨ ∃ i, i + (m' + 1) - 1 < l.length ∧ fitP S wi i (i + (m' + 1) - 1)) := Lib.hid (Or.inr ⟨k, by omega, hfit⟩)
            have f1 : IntKind.i64.wrap ((m' : Int) + 1) = (m' : Int) + 1 := by rw [IntKind.wrap_i64]; omega
            have f2 : IntKind.i64.wrap ((t' : Int) + 1) = (t' : Int) + 1 := by rw [IntKind.wrap_i64]; omega
            have hm2 : m' + 1 ≤ l.length := by omega
            clear hu ef k0 k1 hab a0 a1 hc hfit hA hQ hR
            go_wp2_with fail
            refine HF.out.mono ?_
            rintro e w5 ⟨rfl, hb5⟩
            have B31 := Lib.hid (B30.out.trans (hb5.mono B30.out.size))
            go_simp
            go_wp2
            go_roundw
            case rel => exact ⟨m' + 1, t' + 1, by go_num, by go_num, by omega, by omega, hm2, hQ2, hR2, B31⟩
            case measure => simp [intOf]; omega
          · have hno : (decide (0 ≤ wi) && decide (S[k + (u - 1)] - S[k] ≤ wi)) = false := by
              cases hd : (decide (0 ≤ wi) && decide (S[k + (u - 1)] - S[k] ≤ wi)) with
              | false => rfl
              | true =>
                rw [Bool.and_eq_true, decide_eq_true_eq, decide_eq_true_eq] at hd
                exact absurd (ef.2 hd) hfit
            rw [hno] at HF
            replace HF := Lib.hid HF
            have hQ2 : Hid (∀ i, i < k + 1 → i + m' < l.length → ¬ fitP S wi i (i + m')) := Lib.hid (fun i hi h2 => by
              by_cases e : i = k
              · subst e; exact hfit
              · exact hQ.out i (by omega) h2)
            clear hu ef k0 k1 hab a0 a1 hc hfit hA hQ hno
            go_wp2_with fail
            refine HF.out.mono ?_
            rintro e w5 ⟨rfl, hb5⟩
            have B31 := Lib.hid (B30.out.trans (hb5.mono B30.out.size))
            go_simp
            go_wp2
            go_roundw
            case rel => exact ⟨k + 1, m', by omega, by go_num, rfl, by omega, hQ2, hR, B31⟩
            case measure => simp [intOf]; omega
        · have dt : decide ((t' : Int) ≤ (l.length : Int)) = false := decide_eq_false (by omega)
          have hQ2 : Hid (∀ i, i < k + 1 → i + m' < l.length → ¬ fitP S wi i (i + m')) := Lib.hid (fun i hi h2 => by
              by_cases e : i = k
              · omega
              · exact hQ.out i (by omega) h2)
          go_wp2
          go_roundw
          case rel => exact ⟨k + 1, m', by omega, by go_num, rfl, by omega, hQ2, hR, B30⟩
          case measure => simp [intOf]; omega
    · obtain rfl : k = l.length := by omega
      have hfin := Lib.hid (E.out m' (fun i hi => hQ.out i (by omega) hi) hR.out)
      go_wp2
      go_ret
      exact ⟨by rw [hfin.out]; rfl, (hBw.out.trans (B20.out.mono hws))⟩
end Go.Proofs.YtafecnlaodgmkaaGreatDoor
namespace Go.Proofs.YtafecnlaodgmkaaGreatDoor
set_option linter.unusedVariables false
set_option linter.unusedSimpArgs false
open Go.ChangeShapes Go.WideShapes Go.ChangeAt Go.RowKit
theorem infoI : (Tryz.prog.info? 3).map (fun i => (i.zero, i.size, i.bytes)) = some (some (.int .i64 0), 1, 8) := by kernel_rfl
def fillI (X : List Int) (k : Nat) : List Int := X.take k ++ List.replicate (X.length - k) 0
theorem fillI_next {X : List Int} {k : Nat} (h : k < X.length) : (fillI X k).set k X[k] = fillI X (k + 1) := by
  unfold fillI
  apply List.ext_getElem
  · simp; omega
  · intro i h1 h2
    rw [List.getElem_set]
    by_cases e : k = i
    · subst e
      rw [if_pos rfl, List.getElem_append_left (by simp; omega), List.getElem_take]
    · rw [if_neg e]
      by_cases h3 : i < k
      · rw [List.getElem_append_left (by simp; omega), List.getElem_append_left (by simp; omega), List.getElem_take, List.getElem_take]
      · rw [List.getElem_append_right (by simp; omega), List.getElem_append_right (by simp; omega), List.getElem_replicate, List.getElem_replicate]
theorem fillI_len {X : List Int} {k : Nat} (h : k ≤ X.length) : (fillI X k).length = X.length := by unfold fillI; simp; omega
theorem fillI_all (X : List Int) : fillI X X.length = X := by unfold fillI; simp
theorem fillI_zero (X : List Int) : fillI X 0 = List.replicate X.length 0 := by unfold fillI; simp
theorem intVs_set (X : List Int) (k : Nat) (x : Int) : (intVs X).toArray.setIfInBounds k (.int .i64 x) = (intVs (X.set k x)).toArray := by
  unfold intVs
  rw [List.setIfInBounds_toArray, List.map_set]
theorem make_ints (n : Nat) (hn : n ≤ 1000000000000) (W : World) : (Instr.makeSlice 22 (.int .i64 (n : Int)) (.int .i64 (n : Int))).run Tryz.prog W = .ok (.slice (some ⟨W.heap.size, 0, none⟩) n n) (W.alloc (.cells (intVs (List.replicate n 0)).toArray 3)) := by
  obtain ⟨i0, hi, hz0, hz1, hz2⟩ := info_parts infoI
  have := run_make (P := Tryz.prog) W 22 3 i0 _ Tryz.underlying22 hi hz0 .i64 .i64 (n : Int) (n : Int) (by omega) (Int.le_refl _) (by rw [hz2]; omega) (by omega)
  rw [Int.toNat_natCast, hz1] at this
  rw [this]
  have e : madeCells (Value.int .i64 0).cells (n * 1) = (intVs (List.replicate n 0)).toArray := by
    apply Array.ext_getElem?
    intro i
    unfold intVs madeCells
    by_cases hi : i < n
    · simp [Value.cells, hi, Nat.mod_one]
    · simp [Value.cells, hi]
  rw [← e]
theorem aln_sub : ∀ (l : List Chg) (was : Tri), ∀ e ∈ alnL l was, e ∈ l := by
  intro l
  induction l with
  | nil => intro was e he; exact he
  | cons x l ih =>
    intro was e he
    have he2 : e ∈ (if x.2 = was then alnL l x.2 else x :: alnL l x.2) := he
    split at he2
    · exact List.mem_cons_of_mem _ (ih _ _ he2)
    · rcases List.mem_cons.1 he2 with rfl | h
      · exact List.mem_cons_self
      · exact List.mem_cons_of_mem _ (ih _ _ h)
theorem chP_bd {YF : Int → Int} {z : Src} {M : List Chg} (h : ChP YF z (-9999) 9999 M) : ∀ e ∈ M, -377705116800 ≤ e.1 ∧ e.1 ≤ 253402300799 := by
  obtain ⟨L, hL, rfl⟩ := h
  intro e he
  have he2 := aln_sub _ _ e he
  unfold EvP at hL
  split at hL
  · have := hL.each e he2
    rw [cr_sta, cr_end] at this
    exact ⟨this.1, this.2.1⟩
  · subst hL; cases he2
set_option maxHeartbeats 12800000 in
set_option maxRecDepth 100000 in
theorem crowded_walk {YF : Int → Int} (z : Src) (A : Option Addr) (c : Nat)
    (HCh : ∀ w, (KX w ∧ Rd w A (linVs z.lns)) → Calls Tryz.prog 17 #[srcV z A c, .int .i64 (-9999), .int .i64 9999] w (RetChg (ChP YF z (-9999) 9999) (evE z (-9999) 9999) w))
    (HMo : ∀ (l : List Int) (A : Option Addr) (c : Nat), (∀ a ∈ l, -9223372036854775808 ≤ a ∧ a < 9223372036854775808) → l.length ≤ 1000000000000 → ∀ w, Rd w A (intVs l) → Calls Tryz.prog 8 #[.slice A l.length c, .int .i64 129600] w fun e w' => e = .returned (.int .i64 (mostV l 129600)) ∧ Below w.heap.size w w')
    (w : World) (hK : KX w) (h : Rd w A (linVs z.lns)) :
    Calls Tryz.prog 10 #[srcV z A c] w fun e w' => ∃ M, ChP YF z (-9999) 9999 M ∧ e = .returned (.tuple #[.bool (decide (4 ≤ mostV (M.map (·.1)) 129600)), .int .i64 (evE z (-9999) 9999)]) ∧ Below w.heap.size w w' := by
  have hM : Hid (KX w ∧ Rd w A (linVs z.lns)) := Lib.hid ⟨hK, h⟩
  have hno : evE z (-9999) 9999 ≠ 0 → Hid (∀ M, ChP YF z (-9999) 9999 M → M = []) := fun hE => Lib.hid (fun M hM => by
    obtain ⟨L, hL, rfl⟩ := hM
    unfold EvP at hL
    rw [if_neg hE] at hL
    subst hL; rfl)
  have hbd := Lib.hid (fun M (h : ChP YF z (-9999) 9999 M) => chP_bd h)
  replace HCh := Lib.hid HCh
  replace HMo := Lib.hid HMo
  generalize ChP YF z (-9999) 9999 = P at *
  generalize evE z (-9999) 9999 = E at *
  obtain ⟨nam, off, dst, abb, ls⟩ := z
  unfold srcV at *
  simp only at *
  clear hK h
  go_enter Tryz.func10, Tryz.ntmps10
  go_wp2_with fail
  
  have S0 := Lib.hid (heap_alloc_new w (.cells #[.string (bs nam), .int .i64 off, .bool dst, .string (bs abb), .slice A ls.length c] 30))
  have B0 := Lib.hid ((Below.refl _ w).alloc (Nat.le_refl _) (.cells #[.string (bs nam), .int .i64 off, .bool dst, .string (bs abb), .slice A ls.length c] 30))
  refine (HCh.out _ (rdk_keep hM B0.out)).mono ?_
  rintro e w2 ⟨M, A2, c2, rfl, hrd, hP, hlen, hb⟩
  have Bw := Lib.hid (B0.out.trans (hb.mono B0.out.size))
  have hbM := Lib.hid (hbd.out M hP)
  replace hP := Lib.hid hP
  replace hrd := Lib.hid hrd
  clear hb HCh S0 B0 hbd
  by_cases hE : E = 0
  · subst hE
    clear hno
    have hmk := make_ints M.length hlen
    have hml : (M.map (·.1)).length = M.length := by simp
    have hR0 : Hid ((w2.alloc (.cells (intVs (List.replicate M.length 0)).toArray 3)).heap[w2.heap.size]? = some (.cells (intVs (fillI (M.map (·.1)) 0)).toArray 3 (0, 0))) := Lib.hid (by rw [fillI_zero, hml]; exact heap_alloc_new w2 _)
    have hA0 := Lib.hid (((Below.refl w2.heap.size w2).alloc (Nat.le_refl _) (.cells (intVs (List.replicate M.length 0)).toArray 3)))
    have hws := Bw.out.size
    go_simp
    go_wp2
    obtain ⟨X, hX⟩ : ∃ X, X = M.map (·.1) := ⟨_, rfl⟩
    have hXk : Hid (∀ k (h : k < M.length) (h2 : k < X.length), X[k] = M[k].1) := Lib.hid (fun k h h2 => by subst hX; simp)
    have hXb : Hid (∀ a ∈ X, -9223372036854775808 ≤ a ∧ a < 9223372036854775808) := Lib.hid (fun a ha => by
      subst hX
      obtain ⟨e, he, rfl⟩ := List.mem_map.1 ha
      have := hbM.out e he
      exact ⟨by omega, by omega⟩)
    rw [← hX] at hR0 hml
    have hml1 : X.length ≤ M.length := by omega
    have hml2 : M.length ≤ X.length := by omega
    replace hX := Lib.hid hX
    go_loopw [22] (fun i wr => ∃ k : Nat, k ≤ M.length ∧ i = .int .i64 (k : Int) ∧ Hid (wr.heap[w2.heap.size]? = some (.cells (intVs (fillI X k)).toArray 3 (0, 0))) ∧ Hid (Below w2.heap.size w2 wr)) (fun i _ => M.length - (intOf i).toNat)
    case atStart => exact ⟨0, by omega, rfl, hR0, hA0⟩
    case round =>
      obtain ⟨k, hk, rfl, hrow, B20⟩ := hrel
      obtain ⟨V20, rfl⟩ : ∃ V, V = wr := ⟨_, rfl⟩
      clear hR0 hA0
      by_cases hlt : k < M.length
      · obtain ⟨b, o, rfl, hbl, hc⟩ := hrd.out.chg (k := k) hlt
        obtain ⟨k0, k1, k2, k3⟩ := hc k hlt
        replace k0 := (B20.out.cell (p := ⟨b, o + k * 4, none⟩) hbl).trans k0
        replace k1 := (B20.out.cell (p := ⟨b, o + k * 4 + 1, none⟩) hbl).trans k1
        replace k2 := (B20.out.cell (p := ⟨b, o + k * 4 + 2, none⟩) hbl).trans k2
        replace k3 := (B20.out.cell (p := ⟨b, o + k * 4 + 3, none⟩) hbl).trans k3
        have hd : (k : Int) < (M.length : Int) := by omega
        have fk : IntKind.i64.wrap ((k : Int) + 1) = (k : Int) + 1 := by rw [IntKind.wrap_i64]; omega
        have hxk := hXk.out k hlt (by omega)
        have hfl := fillI_len (X := X) (k := k) (by omega)
        have cg : ∀ p, (V20.alloc p).cell? ⟨w2.heap.size, k, none⟩ = some (.int .i64 ((fillI X k)[k]'(by omega))) := fun p => by
          rw [cell_of_row _ _ _ _ _ _ (row_alloc hrow.out p)]
          simp [intVs]
        have fg : ∀ p, (V20.alloc p).frozen? ⟨w2.heap.size, k, none⟩ = false := fun p => by simp [World.frozen?, row_alloc hrow.out p]
        have hnx := Lib.hid (fillI_next (X := X) (k := k) (by omega))
        rw [hxk] at hnx
        generalize (fillI X k)[k]'(by omega) = old at *
        generalize M[k] = e at *
        obtain ⟨cs, t0, t1, t2⟩ := e
        simp only at k0 k1 k2 k3 hnx
        have hrow2 : Hid (∀ p, ((V20.alloc p).setCell ⟨w2.heap.size, k, none⟩ (.int .i64 cs)).heap[w2.heap.size]? = some (.cells (intVs (fillI X (k + 1))).toArray 3 (0, 0))) := Lib.hid (fun p => by
          rw [row_set1 (row_alloc hrow.out p), intVs_set, hnx.out])
        have B21 : Hid (∀ p, Below w2.heap.size w2 ((V20.alloc p).setCell ⟨w2.heap.size, k, none⟩ (.int .i64 cs))) := Lib.hid (fun p => ((B20.out.alloc B20.out.size p)).setCell (Nat.le_refl _) _)
        replace hxk := Lib.hid hxk
        clear hc hnx hrow hfl
        go_wp2
        go_roundw
        case rel => exact ⟨k + 1, by omega, by go_num, Lib.hid (hrow2.out _), Lib.hid (B21.out _)⟩
        case measure => simp [intOf]; omega
      · obtain rfl : k = M.length := by omega
        have hrX : Rd V20 (some ⟨w2.heap.size, 0, none⟩) (intVs X) := by
          have h9 := hrow.out
          rw [show fillI X M.length = X by rw [← hml]; exact fillI_all X] at h9
          intro j u hu
          refine ⟨w2.heap.size, 0, rfl, (Array.getElem?_eq_some_iff.1 h9).1, ?_⟩
          unfold World.cell?
          rw [h9]
          simp [hu]
        have HM := HMo.out X (some ⟨w2.heap.size, 0, none⟩) M.length hXb.out (by omega) V20 hrX
        rw [hml] at HM
        replace HM := Lib.hid HM
        clear hlt hrX
        go_wp2_with fail
        refine HM.out.mono ?_
        rintro e w5 ⟨rfl, hb5⟩
        have B5 := Lib.hid (Bw.out.trans ((B20.out.trans (hb5.mono B20.out.size)).mono hws))
        go_simp
        go_wp2
        go_ret2
        exact ⟨M, hP.out, by rw [← hX.out]; rfl, B5.out⟩
  · have he := (hno hE).out M hP.out
    subst he
    have f0 : (E != 0) = true := bne_iff_ne.2 hE
    have hz : Hid (decide (4 ≤ mostV (([] : List Chg).map (·.1)) 129600) = false) := Lib.hid (by decide)
    go_simp
    go_wp2
    go_ret2
    exact ⟨[], hP.out, by rw [hz.out]; rfl, Bw.out⟩
end Go.Proofs.YtafecnlaodgmkaaGreatDoor
namespace Go.Proofs.YtafecnlaodgmkaaGreatDoor
set_option linter.unusedVariables false
set_option linter.unusedSimpArgs false
open Go.ChangeShapes Go.WideShapes Go.ChangeAt Go.RowKit
theorem rd_fresh (l : List Int) (V : World) : Rd (V.alloc (.cells (intVs l).toArray 3)) (some ⟨V.heap.size, 0, none⟩) (intVs l) := by
  intro j u hu
  have h := heap_alloc_new V (.cells (intVs l).toArray 3)
  refine ⟨V.heap.size, 0, rfl, by simp, ?_⟩
  unfold World.cell?
  rw [h]
  simp [hu]
set_option maxHeartbeats 6400000 in
set_option maxRecDepth 100000 in
theorem awake18_walk
    (HCA : ∀ l : List Int, l.length ≤ 16 → l.Pairwise (· < ·) → (∀ s ∈ l, -377705116800 ≤ s ∧ s ≤ 253402300799) → ∀ A c w, KX w → Rd w A (linVs (crZ l).lns) → Calls Tryz.prog 10 #[srcV (crZ l) A c] w fun e w' => e = .returned (.tuple #[.bool (decide (4 ≤ mostV l 129600)), .int .i64 0]) ∧ Below w.heap.size w w')
    (HMo : ∀ (l : List Int) (wi : Int) (A : Option Addr) (c : Nat), (∀ a ∈ l, -9223372036854775808 ≤ a ∧ a < 9223372036854775808) → (-9223372036854775808 ≤ wi ∧ wi < 9223372036854775808) → l.length ≤ 1000000000000 → ∀ w, Rd w A (intVs l) → Calls Tryz.prog 8 #[.slice A l.length c, .int .i64 wi] w fun e w' => e = .returned (.int .i64 (mostV l wi)) ∧ Below w.heap.size w w')
    (w : World) (hK : KX w) :
    Calls Tryz.prog 7 #[] w fun e w' => e = .returned (.bool true) ∧ Below w.heap.size w w' := by
  have A1 : Hid (∀ V : World, Calls Tryz.prog 12 #[.slice (some ⟨V.heap.size, 0, none⟩) 4 4] (V.alloc (.cells #[.int .i64 0, .int .i64 1000, .int .i64 2000, .int .i64 129600] 3)) fun e w' => ∃ A2 c2, e = .returned (srcV (crZ [0, 1000, 2000, 129600]) A2 c2) ∧ Rd w' A2 (linVs (crZ [0, 1000, 2000, 129600]).lns) ∧ Below V.heap.size V w') :=
    Lib.hid (fun V => (rAt18_any [0, 1000, 2000, 129600] (some ⟨V.heap.size, 0, none⟩) 4 (by decide) (by decide) _ (rd_fresh [0, 1000, 2000, 129600] V)).mono (fun e w' ⟨A2, c2, h1, h2, h3⟩ => ⟨A2, c2, h1, h2, ((Below.refl _ V).alloc (Nat.le_refl _) _).trans (h3.mono (by simp))⟩))
  have A2 : Hid (∀ V : World, Calls Tryz.prog 12 #[.slice (some ⟨V.heap.size, 0, none⟩) 4 4] (V.alloc (.cells #[.int .i64 0, .int .i64 1000, .int .i64 2000, .int .i64 129601] 3)) fun e w' => ∃ A2 c2, e = .returned (srcV (crZ [0, 1000, 2000, 129601]) A2 c2) ∧ Rd w' A2 (linVs (crZ [0, 1000, 2000, 129601]).lns) ∧ Below V.heap.size V w') :=
    Lib.hid (fun V => (rAt18_any [0, 1000, 2000, 129601] (some ⟨V.heap.size, 0, none⟩) 4 (by decide) (by decide) _ (rd_fresh [0, 1000, 2000, 129601] V)).mono (fun e w' ⟨A2, c2, h1, h2, h3⟩ => ⟨A2, c2, h1, h2, ((Below.refl _ V).alloc (Nat.le_refl _) _).trans (h3.mono (by simp))⟩))
  have C1 := Lib.hid (HCA [0, 1000, 2000, 129600] (by decide) (by decide) (by decide))
  rw [show decide (4 ≤ mostV [0, 1000, 2000, 129600] 129600) = true by decide +kernel] at C1
  have C2 := Lib.hid (HCA [0, 1000, 2000, 129601] (by decide) (by decide) (by decide))
  rw [show decide (4 ≤ mostV [0, 1000, 2000, 129601] 129600) = false by decide +kernel] at C2
  have M1 : Hid (∀ V : World, Calls Tryz.prog 8 #[.slice (some ⟨V.heap.size, 0, none⟩) 3 3, .int .i64 4] (V.alloc (.cells #[.int .i64 1, .int .i64 5, .int .i64 9] 3)) fun e w' => e = .returned (.int .i64 2) ∧ Below V.heap.size V w') :=
    Lib.hid (fun V => (HMo [1, 5, 9] 4 (some ⟨V.heap.size, 0, none⟩) 3 (by decide) (by decide) (by decide) _ (rd_fresh [1, 5, 9] V)).mono (fun e w' ⟨h1, h3⟩ => ⟨by rw [h1, show mostV [1, 5, 9] 4 = 2 by decide +kernel], ((Below.refl _ V).alloc (Nat.le_refl _) _).trans (h3.mono (by simp))⟩))
  have M2 : Hid (∀ V : World, Calls Tryz.prog 8 #[.slice (some ⟨V.heap.size, 0, none⟩) 2 2, .int .i64 0] (V.alloc (.cells #[.int .i64 1, .int .i64 1] 3)) fun e w' => e = .returned (.int .i64 2) ∧ Below V.heap.size V w') :=
    Lib.hid (fun V => (HMo [1, 1] 0 (some ⟨V.heap.size, 0, none⟩) 2 (by decide) (by decide) (by decide) _ (rd_fresh [1, 1] V)).mono (fun e w' ⟨h1, h3⟩ => ⟨by rw [h1, show mostV [1, 1] 0 = 2 by decide +kernel], ((Below.refl _ V).alloc (Nat.le_refl _) _).trans (h3.mono (by simp))⟩))
  have M3 : Hid (∀ V : World, Calls Tryz.prog 8 #[.slice (some ⟨V.heap.size, 0, none⟩) 1 1, .int .i64 (-1)] (V.alloc (.cells #[.int .i64 1] 3)) fun e w' => e = .returned (.int .i64 0) ∧ Below V.heap.size V w') :=
    Lib.hid (fun V => (HMo [1] (-1) (some ⟨V.heap.size, 0, none⟩) 1 (by decide) (by decide) (by decide) _ (rd_fresh [1] V)).mono (fun e w' ⟨h1, h3⟩ => ⟨by rw [h1, show mostV [1] (-1) = 0 by decide +kernel], ((Below.refl _ V).alloc (Nat.le_refl _) _).trans (h3.mono (by simp))⟩))
  replace hK := Lib.hid hK
  clear HCA HMo
  go_enter Tryz.func7, Tryz.ntmps7
  go_wp2_with fail
  refine (A1.out _).mono ?_
  rintro e w1 ⟨B1, c1, rfl, hr1, hb1⟩
  have K1 := Lib.hid (kx_keep hK hb1)
  have C1' := Lib.hid (C1.out B1 c1 w1 K1.out hr1)
  generalize srcV (crZ [0, 1000, 2000, 129600]) B1 c1 = v1 at *
  replace hb1 := Lib.hid hb1
  clear hr1 C1 A1
  go_simp
  go_wp2_with fail
  refine C1'.out.mono ?_
  rintro e w2 ⟨rfl, hb2⟩
  have b2 := Lib.hid (hb1.out.trans (hb2.mono hb1.out.size))
  have K2 := Lib.hid (kx_keep hK b2.out)
  clear hb2 C1' K1 hb1
  go_simp
  go_wp2_with fail
  refine (A2.out _).mono ?_
  rintro e w3 ⟨B2, c2, rfl, hr2, hb3⟩
  have b3 := Lib.hid (b2.out.trans (hb3.mono b2.out.size))
  have K3 := Lib.hid (kx_keep hK b3.out)
  have C2' := Lib.hid (C2.out B2 c2 w3 K3.out hr2)
  generalize srcV (crZ [0, 1000, 2000, 129601]) B2 c2 = v2 at *
  clear hr2 C2 A2 hb3 b2 K2
  go_simp
  go_wp2_with fail
  refine C2'.out.mono ?_
  rintro e w4 ⟨rfl, hb4⟩
  have b4 := Lib.hid (b3.out.trans (hb4.mono b3.out.size))
  clear hb4 C2' K3 b3
  go_simp
  go_wp2_with fail
  refine (M1.out _).mono ?_
  rintro e w5 ⟨rfl, hb5⟩
  have b5 := Lib.hid (b4.out.trans (hb5.mono b4.out.size))
  clear hb5 M1 b4
  go_simp
  go_wp2_with fail
  refine (M2.out _).mono ?_
  rintro e w6 ⟨rfl, hb6⟩
  have b6 := Lib.hid (b5.out.trans (hb6.mono b5.out.size))
  clear hb6 M2 b5
  go_simp
  go_wp2_with fail
  refine (M3.out _).mono ?_
  rintro e w7 ⟨rfl, hb7⟩
  have b7 := Lib.hid (b6.out.trans (hb7.mono b6.out.size))
  clear hb7 M3 b6
  go_simp
  go_wp2
  go_ret
  exact ⟨rfl, b7.out⟩
end Go.Proofs.YtafecnlaodgmkaaGreatDoor
namespace Go.Proofs.YtafecnlaodgmkaaGreatDoor
set_option linter.unusedVariables false
set_option linter.unusedSimpArgs false
open Go.ChangeShapes Go.WideShapes Go.ChangeAt Go.RowKit
theorem rd_newsI {V u : World} {b o : Nat} {xs : List Value} (h : Rd V (some ⟨b, o, none⟩) xs) (hb : Below V.heap.size V u) : ∀ j x, xs[j]? = some x → u.cell? ((⟨b, o, none⟩ : Addr).add j) = some x := fun j x hx => by
  have e : (⟨b, o, none⟩ : Addr).add j = ⟨b, o + j, none⟩ := by unfold Addr.add; split <;> simp_all
  rw [e]
  exact (h.below hb (Nat.le_refl _)).at_ rfl hx
theorem app_empty (A : Option Addr) (c : Nat) (ty : TypeId) (W : World) : (Builtin.append_ #[22, 22] ty #[.slice none 0 0, .slice A 0 c]).run Tryz.prog W = .ok (.slice none 0 0) W := by
  cases A <;> kernel_rfl
abbrev MostC : Prop := ∀ (l : List Int) (wi : Int) (A : Option Addr) (c : Nat), (∀ a ∈ l, -9223372036854775808 ≤ a ∧ a < 9223372036854775808) → (-9223372036854775808 ≤ wi ∧ wi < 9223372036854775808) → l.length ≤ 1000000000000 → ∀ w, Rd w A (intVs l) → Calls Tryz.prog 8 #[.slice A l.length c, .int .i64 wi] w fun e w' => e = .returned (.int .i64 (mostV l wi)) ∧ Below w.heap.size w w'
abbrev AwakeC : Prop := ∀ w, KX w → Calls Tryz.prog 7 #[] w fun e w' => e = .returned (.bool true) ∧ Below w.heap.size w w'
set_option maxHeartbeats 6400000 in
set_option maxRecDepth 100000 in
theorem crowdMost_over (HMo : MostC) (HAw : AwakeC) (l : List Int) (A : Option Addr) (c : Nat) (wi : Int) (hl : ∀ a ∈ l, -9223372036854775808 ≤ a ∧ a < 9223372036854775808) (hw : -9223372036854775808 ≤ wi ∧ wi < 9223372036854775808) (w : World) (h : Rd w A (intVs l)) (hK : KX w) :
    Calls Tryz.prog 3 #[.slice A l.length c, .int .i64 wi] w fun e w' => e = .returned (.bool true) ∧ Below w.heap.size w w' := by
  have hK := Lib.hid hK
  have hAw := Lib.hid HAw
  by_cases hbig : 300 < l.length
  · have d0 : decide (300 < (l.length : Int)) = true := decide_eq_true (by omega)
    have H1 := Lib.hid (HAw w hK.out)
    clear h hl
    go_enter Tryz.func3, Tryz.ntmps3
    go_wp2_with fail
    refine H1.out.mono ?_
    rintro e w1 ⟨rfl, hb⟩
    replace hb := Lib.hid hb
    go_simp
    go_wp2
    go_ret
    exact ⟨rfl, hb.out⟩
  · have d0 : decide (300 < (l.length : Int)) = false := decide_eq_false (by omega)
    have hR := Lib.hid h
    have HR := Lib.hid (fun V (hb : Below w.heap.size w V) => rMost_any l wi A c hl hw (by omega) V (h.below hb (Nat.le_refl _)))
    by_cases h0 : 0 < l.length
    · have HM := Lib.hid (fun A2 c2 V (hr : Rd V A2 (intVs l)) => HMo l wi A2 c2 hl hw (by omega) V hr)
      obtain ⟨b, o, rfl, hbl, hc⟩ := h.ints h0
      obtain ⟨i0, hi, hz0, hz1, hz2⟩ := info_parts infoI
      have hlen : (intVs l).length = l.length := by unfold intVs; simp
      have hone : ∀ u ∈ intVs l, u.oneCell' = true := by
        intro u hu
        unfold intVs at hu
        obtain ⟨x, _, rfl⟩ := List.mem_map.1 hu
        rfl
      have hnews := rd_newsI hR.out (Below.refl _ w)
      have hc2 := Lib.hid hc
      clear h hl HMo HAw hc
      generalize mostV l wi = R at *
      go_enter Tryz.func3, Tryz.ntmps3
      go_wp2_with (first
        | (at_builtin; refine wpList_append_lies _ rfl (.const (.slice none 0 0)) (.tmp 9) 22 rfl w.heap.size 3 i0 (.int .i64 0) 1 8 Tryz.underlying22 hi hz0 hz1 hz2 rfl (by decide) _ 0 [] rfl (World.ownsRow_nil _ _ _ _) ⟨b, o, none⟩ l.length c (intVs l) rfl (by rw [hlen]; omega) hnews hone (by omega) (by unfold maxLen; omega) (by omega) (Nat.le_refl _) _ rfl ?_; intro g cap w1 hown1 hgrow hat hlt1)
        | fail)
      have hb1 := Lib.hid ((Below.refl w.heap.size w).grown hgrow (Nat.le_refl _) (fun k hk => by cases hk))
      rw [Nat.zero_add, List.nil_append] at hown1
      have HM1 := Lib.hid (HM.out (some ⟨g, 0, none⟩) cap w1 (Rd.own hown1))
      clear hown1 hgrow hat hlt1 hnews hone hlen HM
      refine HM1.out.mono ?_
      rintro e w2 ⟨rfl, hb2⟩
      have b2 := Lib.hid (hb1.out.trans (hb2.mono hb1.out.size))
      have HR2 := Lib.hid (HR.out w2 b2.out)
      clear hb2 HM1 hb1 HR
      go_simp
      go_wp2_with fail
      refine HR2.out.mono ?_
      rintro e w3 ⟨rfl, hb3⟩
      have b3 := Lib.hid (b2.out.trans (hb3.mono b2.out.size))
      have HA3 := Lib.hid (hAw.out w3 (kx_keep hK b3.out))
      clear hb3 HR2 b2
      go_simp
      go_wp2_with fail
      refine HA3.out.mono ?_
      rintro e w4 ⟨rfl, hb4⟩
      have b4 := Lib.hid (b3.out.trans (hb4.mono b3.out.size))
      go_simp
      go_wp2
      go_ret
      exact ⟨rfl, b4.out⟩
    · obtain rfl : l = [] := List.length_eq_zero_iff.1 (by omega)
      have HM1 : Hid (Calls Tryz.prog 8 #[.slice none 0 0, .int .i64 wi] w fun e w' => e = .returned (.int .i64 (mostV [] wi)) ∧ Below w.heap.size w w') := Lib.hid (HMo [] wi none 0 hl hw (by decide) w (fun j u hu => by simp [intVs] at hu))
      have HR : Hid (∀ V, Below w.heap.size w V → Calls Tryz.prog 9 #[.slice A 0 c, .int .i64 wi] V fun e w' => e = .returned (.int .i64 (mostV [] wi)) ∧ Below V.heap.size V w') := HR
      have d1 : decide ((300 : Int) < 0) = false := rfl
      show Calls Tryz.prog 3 #[.slice A 0 c, .int .i64 wi] w _
      clear h hl HMo HAw hR d0 hbig h0
      generalize mostV [] wi = R at *
      go_enter Tryz.func3, Tryz.ntmps3
      go_wp2_with (first
        | (at_builtin; refine wpList_append_here rfl (.const (.slice none 0 0)) (.tmp 9) 22 rfl _ _ _ _ _ rfl rfl (app_empty A c _ _) ?_)
        | fail)
      refine HM1.out.mono ?_
      rintro e w2 ⟨rfl, hb2⟩
      have HR2 := Lib.hid (HR.out w2 hb2)
      replace hb2 := Lib.hid hb2
      clear HM1 HR
      go_simp
      go_wp2_with fail
      refine HR2.out.mono ?_
      rintro e w3 ⟨rfl, hb3⟩
      have b3 := Lib.hid (hb2.out.trans (hb3.mono hb2.out.size))
      have HA3 := Lib.hid (hAw.out w3 (kx_keep hK b3.out))
      clear hb3 HR2 hb2
      go_simp
      go_wp2_with fail
      refine HA3.out.mono ?_
      rintro e w4 ⟨rfl, hb4⟩
      have b4 := Lib.hid (b3.out.trans (hb4.mono b3.out.size))
      go_simp
      go_wp2
      go_ret
      exact ⟨rfl, b4.out⟩
end Go.Proofs.YtafecnlaodgmkaaGreatDoor
namespace Go.Proofs.YtafecnlaodgmkaaGreatDoor
set_option linter.unusedVariables false
set_option linter.unusedSimpArgs false
open Go.ChangeShapes Go.WideShapes Go.ChangeAt Go.RowKit
abbrev CrowdC : Prop := ∀ l : List Int, l.length ≤ 16 → l.Pairwise (· < ·) → (∀ s ∈ l, -377705116800 ≤ s ∧ s ≤ 253402300799) → ∀ A c w, KX w → Rd w A (linVs (crZ l).lns) → Calls Tryz.prog 10 #[srcV (crZ l) A c] w fun e w' => e = .returned (.tuple #[.bool (decide (4 ≤ mostV l 129600)), .int .i64 0]) ∧ Below w.heap.size w w'
def Rise (l : List Int) (k : Nat) (x : Int) : Prop := (l.take k).Pairwise (· < ·) ∧ (∀ a ∈ l.take k, -377705116800 ≤ a ∧ a ≤ 253402300799 ∧ a ≤ x) ∧ -377705116801 ≤ x
theorem rise_next {l : List Int} {k : Nat} {x : Int} (h : Rise l k x) (hk : k < l.length) (h1 : x < l[k]) (h2 : l[k] ≤ 253402300799) : Rise l (k + 1) l[k] := by
  unfold Rise at *
  obtain ⟨a, b, c⟩ := h
  rw [List.take_succ_eq_append_getElem hk]
  refine ⟨List.pairwise_append.2 ⟨a, List.pairwise_singleton _ _, fun p hp q hq => ?_⟩, fun p hp => ?_, by omega⟩
  · obtain rfl := List.mem_singleton.1 hq
    have := b p hp
    omega
  · rcases List.mem_append.1 hp with hp | hp
    · have := b p hp; omega
    · obtain rfl := List.mem_singleton.1 hp
      omega
set_option maxHeartbeats 6400000 in
set_option maxRecDepth 100000 in
theorem crowdAts_over (HCA : CrowdC) (HAw : AwakeC) (l : List Int) (A : Option Addr) (c : Nat) (hl : ∀ a ∈ l, -9223372036854775808 ≤ a ∧ a < 9223372036854775808) (w : World) (h : Rd w A (intVs l)) (hK : KX w) :
    Calls Tryz.prog 5 #[.slice A l.length c] w fun e w' => e = .returned (.bool true) ∧ Below w.heap.size w w' := by
  have hK := Lib.hid hK
  have hAw := Lib.hid HAw
  by_cases hbig : 16 < l.length
  · have d0 : decide (16 < (l.length : Int)) = true := decide_eq_true (by omega)
    have H1 := Lib.hid (HAw w hK.out)
    clear h hl
    go_enter Tryz.func5, Tryz.ntmps5
    go_wp2_with fail
    refine H1.out.mono ?_
    rintro e w1 ⟨rfl, hb⟩
    replace hb := Lib.hid hb
    go_simp
    go_wp2
    go_ret
    exact ⟨rfl, hb.out⟩
  · have d0 : decide (16 < (l.length : Int)) = false := decide_eq_false (by omega)
    have hR := Lib.hid h
    have HR := Lib.hid (fun V (hb : Below w.heap.size w V) => rMost_any l 129600 A c hl (by omega) (by omega) V (h.below hb (Nat.le_refl _)))
    have HT := Lib.hid (fun V (hb : Below w.heap.size w V) => rAt18_any l A c hl (by omega) V (h.below hb (Nat.le_refl _)))
    have HC := Lib.hid (fun hr hs A c V hK hR => HCA l (by omega) hr hs A c V hK hR)
    have hl2 := Lib.hid hl
    clear h hl HAw HCA
    generalize mostV l 129600 = R at *
    go_enter Tryz.func5, Tryz.ntmps5
    go_wp2
    go_loopw [3, 4] (fun x i wr => ∃ (k : Nat) (x' : Int), k ≤ l.length ∧ i = .int .i64 (k : Int) ∧ x = .int .i64 x' ∧ Hid (Rise l k x') ∧ Hid (Below w.heap.size w wr)) (fun _ i _ => l.length - (intOf i).toNat)
    case atStart => exact ⟨0, -377705116801, by omega, rfl, rfl, Lib.hid ⟨by simp, by simp, by omega⟩, Lib.hid (Below.refl _ _)⟩
    case round =>
      obtain ⟨k, x, hk, rfl, rfl, hRi, B20⟩ := hrel
      obtain ⟨V20, rfl⟩ : ∃ V, V = wr := ⟨_, rfl⟩
      by_cases hlt : k < l.length
      · obtain ⟨b, o, rfl, hbl, hc⟩ := hR.out.ints hlt
        have hkT : (k : Int) < (l.length : Int) := by omega
        have k0 : V20.cell? ⟨b, o + k, none⟩ = some (.int .i64 l[k]) := (B20.out.cell (p := ⟨b, o + k, none⟩) hbl).trans (hc k hlt)
        have hnx := fun h1 h2 => Lib.hid (rise_next hRi.out hlt h1 h2)
        have HA := Lib.hid (hAw.out V20 (kx_keep hK B20.out))
        generalize l[k] = s at *
        have fk : IntKind.i64.wrap ((k : Int) + 1) = (k : Int) + 1 := by rw [IntKind.wrap_i64]; omega
        clear hc
        by_cases h1 : s ≤ x
        · have d1 : decide (s ≤ x) = true := decide_eq_true h1
          clear hnx
          go_wp2_with fail
          refine HA.out.mono ?_
          rintro e w1 ⟨rfl, hb⟩
          have b1 := Lib.hid (B20.out.trans (hb.mono B20.out.size))
          go_simp
          go_wp2
          go_ret
          exact ⟨rfl, b1.out⟩
        · have d1 : decide (s ≤ x) = false := decide_eq_false h1
          by_cases h2 : 253402300799 < s
          · have d2 : decide (253402300799 < s) = true := decide_eq_true h2
            clear hnx
            go_wp2_with fail
            refine HA.out.mono ?_
            rintro e w1 ⟨rfl, hb⟩
            have b1 := Lib.hid (B20.out.trans (hb.mono B20.out.size))
            go_simp
            go_wp2
            go_ret
            exact ⟨rfl, b1.out⟩
          · have d2 : decide (253402300799 < s) = false := decide_eq_false h2
            have hn := hnx (by omega) (by omega)
            clear hnx
            go_wp2
            go_roundw
            case rel => exact ⟨k + 1, s, by omega, by go_num, rfl, hn, B20⟩
            case measure => simp [intOf]; omega
      · obtain rfl : k = l.length := by omega
        have hri := hRi.out
        unfold Rise at hri
        rw [List.take_length] at hri
        have HC2 := Lib.hid (HC.out hri.1 (fun s hs => ⟨(hri.2.1 s hs).1, (hri.2.1 s hs).2.1⟩))
        have HT2 := Lib.hid (HT.out V20 B20.out)
        clear hri hRi HC hlt
        go_wp2_with fail
        refine HT2.out.mono ?_
        rintro e w1 ⟨A1, c1, rfl, hr1, hb1⟩
        have b1 := Lib.hid (B20.out.trans (hb1.mono B20.out.size))
        have HC3 := Lib.hid (HC2.out A1 c1 w1 (kx_keep hK b1.out) hr1)
        generalize srcV (crZ l) A1 c1 = v1 at *
        clear hr1 hb1 HC2 HT2
        go_simp
        go_wp2_with fail
        refine HC3.out.mono ?_
        rintro e w2 ⟨rfl, hb2⟩
        have b2 := Lib.hid (b1.out.trans (hb2.mono b1.out.size))
        have HR2 := Lib.hid (HR.out w2 b2.out)
        clear hb2 HC3 b1 HR
        go_simp
        go_wp2_with fail
        refine HR2.out.mono ?_
        rintro e w3 ⟨rfl, hb3⟩
        have b3 := Lib.hid (b2.out.trans (hb3.mono b2.out.size))
        have HA3 := Lib.hid (hAw.out w3 (kx_keep hK b3.out))
        clear hb3 HR2 b2
        go_simp
        go_wp2_with fail
        refine HA3.out.mono ?_
        rintro e w4 ⟨rfl, hb4⟩
        have b4 := Lib.hid (b3.out.trans (hb4.mono b3.out.size))
        go_simp
        go_wp2
        go_ret
        exact ⟨rfl, b4.out⟩
end Go.Proofs.YtafecnlaodgmkaaGreatDoor
namespace Go.Proofs.YtafecnlaodgmkaaGreatDoor
set_option linter.unusedVariables false
set_option linter.unusedSimpArgs false
open Go.ChangeShapes Go.WideShapes Go.ChangeAt Go.RowKit
theorem most_moved (X : List Int) (wi q : Int) : mostV (X.map (· + q)).reverse wi = mostV X wi := by
  rw [most_perm (List.reverse_perm _), most_map]
structure AB (B : Nat) (w0 wr : World) (va vb : Value) (k : Nat) (X Y : List Int) : Prop where
  oa : wr.ownsRow B 3 1 va k (intVs X)
  ob : wr.ownsRow B 3 1 vb k (intVs Y)
  ne : ∀ g, va.ownBlock = some g → vb.ownBlock ≠ some g
  bel : Below B w0 wr
  sz : B ≤ wr.heap.size
  nil : k = 0 → va = .slice none 0 0 ∧ vb = .slice none 0 0
theorem intVs_snoc (X : List Int) (x : Int) : intVs (X ++ [x]) = intVs X ++ [.int .i64 x] := by unfold intVs; simp
theorem intVs_cons (X : List Int) (x : Int) : intVs (x :: X) = [.int .i64 x] ++ intVs X := by unfold intVs; simp
theorem AB.one {B : Nat} {w0 wr w1 : World} {va vb : Value} {k : Nat} {X Y : List Int} {x : Int} {g cap : Nat} {o : Obj} (h : AB B w0 wr va vb k X Y)
    (hown : w1.ownsRow B 3 1 (.slice (some ⟨g, 0, none⟩) (k + 1) cap) (k + 1) (intVs X ++ [.int .i64 x])) (hg : (wr.alloc o).grownBy w1 va.ownBlock) (hat : va.ownBlock = some g ∨ g = (wr.alloc o).heap.size) :
    w1.ownsRow B 3 1 (.slice (some ⟨g, 0, none⟩) (k + 1) cap) (k + 1) (intVs (X ++ [x])) ∧ w1.ownsRow B 3 1 vb k (intVs Y) ∧ vb.ownBlock ≠ some g ∧ Below B w0 w1 ∧ B ≤ w1.heap.size ∧ g < w1.heap.size := by
  have hs := hg.size
  have hs2 : (wr.alloc o).heap.size = wr.heap.size + 1 := by simp
  have hs3 := h.sz
  refine ⟨by rw [intVs_snoc]; exact hown, own_stay h.ob (fun gb hgb => app_keep hg (h.ob.lt gb hgb).2 (fun e => h.ne gb e hgb)), fun e => ?_, bel_append h.bel h.sz h.oa hg, by omega, (hown.lt g rfl).2⟩
  exact app_ne hat (h.ob.lt g e).2 (fun e2 => h.ne g e2 e) rfl
theorem AB.two {B : Nat} {w0 w1 w2 : World} {k : Nat} {X Y : List Int} {y : Int} {g cap g2 cap2 : Nat} {o : Obj}
    (ha : w1.ownsRow B 3 1 (.slice (some ⟨g, 0, none⟩) (k + 1) cap) (k + 1) (intVs X)) (hb : Below B w0 w1) (hsz : B ≤ w1.heap.size)
    (hown : w2.ownsRow B 3 1 (.slice (some ⟨g2, 0, none⟩) (1 + k) cap2) (1 + k) ([.int .i64 y] ++ intVs Y)) (hg : (w1.alloc o).grownBy w2 (some w1.heap.size)) (hat : (some w1.heap.size = some g2) ∨ g2 = (w1.alloc o).heap.size) :
    AB B w0 w2 (.slice (some ⟨g, 0, none⟩) (k + 1) cap) (.slice (some ⟨g2, 0, none⟩) (1 + k) cap2) (k + 1) X (y :: Y) := by
  have hs := hg.size
  have hs2 : (w1.alloc o).heap.size = w1.heap.size + 1 := by simp
  have hgl := (ha.lt g rfl).2
  refine ⟨own_stay ha (fun gb hgb => ?_), by rw [intVs_cons, show k + 1 = 1 + k by omega]; exact hown, fun gb hgb e => ?_, (hb.alloc hsz o).grown hg (by omega) (fun k hk => by injection hk with hk; omega), by omega, fun e => by omega⟩
  · injection hgb with hgb
    subst hgb
    rw [hg.block g (by omega) (fun e => by injection e with e; omega)]
    exact heap_alloc_old w1 o hgl
  · injection hgb with hgb
    subst hgb
    have e2 : g2 = g := Option.some.inj e
    rcases hat with h | h
    · have h2 := Option.some.inj h; omega
    · omega
theorem AB.two0 {B : Nat} {w0 w1 : World} {X : List Int} {y : Int} {g cap : Nat}
    (ha : w1.ownsRow B 3 1 (.slice (some ⟨g, 0, none⟩) 1 cap) 1 (intVs X)) (hb : Below B w0 w1) (hsz : B ≤ w1.heap.size) :
    AB B w0 (w1.alloc (.cells #[.int .i64 y] 3)) (.slice (some ⟨g, 0, none⟩) 1 cap) (.slice (some ⟨w1.heap.size, 0, none⟩) 1 1) 1 X [y] := by
  have hgl := (ha.lt g rfl).2
  refine ⟨ha.alloc _, World.ownsRow_lit w1 #[.int .i64 y] 1 hsz (by decide) rfl, fun gb hgb e => ?_, hb.alloc hsz _, by simp; omega, fun e => by omega⟩
  have e1 : g = gb := Option.some.inj hgb
  have e2 : w1.heap.size = gb := Option.some.inj e
  omega
theorem tm_bd (x : Int) : -1099511627776 < x.tmod 1099511627776 ∧ x.tmod 1099511627776 < 1099511627776 := by
  by_cases h : 0 ≤ x
  · rw [Int.tmod_eq_emod_of_nonneg h]; omega
  · have e : x.tmod 1099511627776 = -((-x).tmod 1099511627776) := by rw [Int.neg_tmod]; omega
    rw [e, Int.tmod_eq_emod_of_nonneg (by omega)]
    omega
def numA (l : List Int) (k : Nat) : List Int := (l.take k).map (fun x => x.tmod 1099511627776)
theorem numA_next {l : List Int} {k : Nat} (h : k < l.length) : numA l (k + 1) = numA l k ++ [l[k].tmod 1099511627776] := by
  unfold numA
  rw [List.take_succ_eq_append_getElem h, List.map_append]
  rfl
theorem numB_next {l : List Int} {k : Nat} (h : k < l.length) (q : Int) : ((numA l (k + 1)).map (· + q)).reverse = (l[k].tmod 1099511627776 + q) :: ((numA l k).map (· + q)).reverse := by
  rw [numA_next h, List.map_append, List.reverse_append]
  rfl
set_option maxHeartbeats 12800000 in
set_option maxRecDepth 100000 in
theorem crowdOrder_over (HMo : MostC) (HAw : AwakeC) (l : List Int) (A : Option Addr) (c : Nat) (by_ wi : Int) (hl : ∀ a ∈ l, -9223372036854775808 ≤ a ∧ a < 9223372036854775808) (hy : -9223372036854775808 ≤ by_ ∧ by_ < 9223372036854775808) (hw : -9223372036854775808 ≤ wi ∧ wi < 9223372036854775808) (w : World) (h : Rd w A (intVs l)) (hK : KX w) :
    Calls Tryz.prog 6 #[.slice A l.length c, .int .i64 by_, .int .i64 wi] w fun e w' => e = .returned (.bool true) ∧ Below w.heap.size w w' := by
  have hK := Lib.hid hK
  have hAw := Lib.hid HAw
  by_cases hbig : 200 < l.length
  · have d0 : decide (200 < (l.length : Int)) = true := decide_eq_true (by omega)
    have H1 := Lib.hid (HAw w hK.out)
    clear h hl
    go_enter Tryz.func6, Tryz.ntmps6
    go_wp2_with fail
    refine H1.out.mono ?_
    rintro e w1 ⟨rfl, hb⟩
    replace hb := Lib.hid hb
    go_simp
    go_wp2
    go_ret
    exact ⟨rfl, hb.out⟩
  · have d0 : decide (200 < (l.length : Int)) = false := decide_eq_false (by omega)
    have hR := Lib.hid h
    have hb1 := tm_bd by_
    obtain ⟨q, hq⟩ : ∃ q, by_.tmod 1099511627776 = q := ⟨_, rfl⟩
    rw [hq] at hb1
    have fq : IntKind.i64.wrap q = q := by rw [IntKind.wrap_i64]; omega
    obtain ⟨i0, hi, hz0, hz1, hz2⟩ := info_parts infoI
    have HM := Lib.hid (fun (X : List Int) (A : Option Addr) (c : Nat) (hX : ∀ a ∈ X, -9223372036854775808 ≤ a ∧ a < 9223372036854775808) (hn : X.length ≤ 1000000000000) V hV => HMo X wi A c hX hw hn V hV)
    have HT := Lib.hid (fun V => rAt18_any [] none 0 (by decide) (by decide) V (fun j u hu => by simp [intVs] at hu))
    have HCk := Lib.hid (fun A c V (hR : Rd V A (linVs (crZ []).lns)) => rCheck15_any (crZ []) A c V hR (by decide) (by decide) (by decide))
    rw [(ckR_zero (crZ [])).2 (crZ_ok (by decide) (by decide))] at HCk
    have hmm := Lib.hid (fun X => most_moved X wi q)
    have hnb := Lib.hid (fun k (h : k < l.length) => numB_next h q)
    have hna := Lib.hid (fun k (h : k < l.length) => numA_next (l := l) h)
    have hbA : Hid (∀ a ∈ numA l l.length, -1099511627776 < a ∧ a < 1099511627776) := Lib.hid (fun a ha => by
      obtain ⟨x, _, rfl⟩ := List.mem_map.1 ha
      exact tm_bd x)
    have hlA : Hid ((numA l l.length).length = l.length) := Lib.hid (by unfold numA; simp)
    clear h hl HMo HAw hw
    go_enter Tryz.func6, Tryz.ntmps6
    go_wp2
    go_loopw [7, 8, 9] (fun va vb i wr => ∃ k : Nat, k ≤ l.length ∧ i = .int .i64 (k : Int) ∧ Hid (AB w.heap.size w wr va vb k (numA l k) ((numA l k).map (· + q)).reverse)) (fun _ _ i _ => l.length - (intOf i).toNat)
    case atStart => exact ⟨0, by omega, rfl, Lib.hid ⟨World.ownsRow_nil _ _ _ _, World.ownsRow_nil _ _ _ _, fun g e => by (cases e), Below.refl _ _, Nat.le_refl _, fun _ => ⟨rfl, rfl⟩⟩⟩
    case round =>
      obtain ⟨k, hk, rfl, HB⟩ := hrel
      obtain ⟨V20, rfl⟩ : ∃ V, V = wr := ⟨_, rfl⟩
      by_cases hlt : k < l.length
      · obtain ⟨b, o, rfl, hbl, hc⟩ := hR.out.ints hlt
        have hkT : (k : Int) < (l.length : Int) := by omega
        have k0 : V20.cell? ⟨b, o + k, none⟩ = some (.int .i64 l[k]) := (HB.out.bel.cell (p := ⟨b, o + k, none⟩) hbl).trans (hc k hlt)
        have hn1 := hna.out k hlt
        have hn2 := hnb.out k hlt
        have hrb := tm_bd l[k]
        generalize l[k] = s at *
        obtain ⟨r, hr⟩ : ∃ r, s.tmod 1099511627776 = r := ⟨_, rfl⟩
        rw [hr] at hn1 hn2 hrb
        have fr : IntKind.i64.wrap r = r := by rw [IntKind.wrap_i64]; omega
        have frq : IntKind.i64.wrap (r + q) = r + q := by rw [IntKind.wrap_i64]; omega
        have fk : IntKind.i64.wrap ((k : Int) + 1) = (k : Int) + 1 := by rw [IntKind.wrap_i64]; omega
        replace hn1 := Lib.hid hn1
        replace hn2 := Lib.hid hn2
        have hrb1 := Lib.hid hrb
        clear hc hrb
        generalize hX : numA l k = X at *
        generalize hY : (X.map (· + q)).reverse = Y at *
        replace hX := Lib.hid hX
        replace hY := Lib.hid hY
        have hoa := HB.out.oa
        have hsz := HB.out.sz
        by_cases h0 : k = 0
        · obtain ⟨rfl, rfl⟩ := HB.out.nil h0
          have hX0 : X = [] := by rw [← hX.out, h0]; rfl
          subst hX0
          have hY0 : Y = [] := by rw [← hY.out]; rfl
          subst hY0
          have HB0 : Hid (AB w.heap.size w V20 (.slice none 0 0) (.slice none 0 0) 0 [] []) := Lib.hid (by have := HB.out; rw [h0] at this; exact this)
          have hoa := HB0.out.oa
          replace h0 := Lib.hid h0
          go_wp2_with (first
            | (at_builtin; refine wpList_append_lies _ rfl (.tmp 28) (.tmp 30) 22 rfl w.heap.size 3 i0 (.int .i64 0) 1 8 Tryz.underlying22 hi hz0 hz1 hz2 rfl (by decide) _ 0 (intVs []) rfl (hoa.alloc _) ⟨V20.heap.size, 0, none⟩ 1 1 [.int .i64 r] rfl rfl (news1 _ _ _) (one1 rfl) (by decide) (by decide) (by decide) (by simp; omega) _ rfl ?_; intro g cap w1 hown1 hgrow hat hlt1; obtain ⟨o1, o2, n1, b1, s1, l1⟩ := HB0.out.one hown1 hgrow hat; (have HB2 := Lib.hid (AB.two0 (y := r + q) o1 b1 s1)); clear hown1 hgrow hat hoa o2 n1 b1 l1)
            | (at_builtin; refine wpList_append_own_none rfl (.tmp 35) (.tmp 36) 22 rfl w.heap.size 3 i0 1 Tryz.underlying22 hi _ 1 [.int .i64 (r + q)] rfl (World.ownsRow_lit _ #[.int .i64 (r + q)] 1 s1 (by decide) rfl) rfl ?_)
            | fail)
          go_wp2
          go_roundw
          case rel => exact ⟨k + 1, by omega, by go_num, Lib.hid (by rw [hn2.out, hn1.out, h0.out]; exact HB2.out)⟩
          case measure => simp [intOf]; omega
        · have h1 : 0 < k := by omega
          obtain ⟨Aa, ca, ga, rfl, -⟩ := own_form hoa
          obtain ⟨Ab, cb, gb, rfl, -, hb2, -⟩ := own_form HB.out.ob
          obtain ⟨rfl, -, -⟩ := hb2 h1
          have hYl : (intVs Y).length = k := by have := HB.out.ob.1; omega
          have hone : ∀ u ∈ intVs Y, u.oneCell' = true := by
            intro u hu
            unfold intVs at hu
            obtain ⟨x, _, rfl⟩ := List.mem_map.1 hu
            rfl
          clear hb2
          go_wp2_with (first
            | (at_builtin; refine wpList_append_lies _ rfl (.tmp 28) (.tmp 30) 22 rfl w.heap.size 3 i0 (.int .i64 0) 1 8 Tryz.underlying22 hi hz0 hz1 hz2 rfl (by decide) _ k (intVs X) rfl (hoa.alloc _) ⟨V20.heap.size, 0, none⟩ 1 1 [.int .i64 r] rfl rfl (news1 _ _ _) (one1 rfl) (by decide) (by unfold maxLen; omega) (by omega) (by simp; omega) _ rfl ?_; intro g cap w1 hown1 hgrow hat hlt1; obtain ⟨o1, o2, n1, b1, s1, l1⟩ := HB.out.one hown1 hgrow hat; (have hnews := rd_newsI (Rd.own o2) ((Below.refl _ w1).alloc (Nat.le_refl _) (.cells #[.int .i64 (r + q)] 3))); clear hown1 hgrow hat hoa o2 n1 l1)
            | (at_builtin; refine wpList_append_lies _ rfl (.tmp 35) (.tmp 36) 22 rfl w.heap.size 3 i0 (.int .i64 0) 1 8 Tryz.underlying22 hi hz0 hz1 hz2 rfl (by decide) _ 1 [.int .i64 (r + q)] rfl (World.ownsRow_lit _ #[.int .i64 (r + q)] 1 s1 (by decide) rfl) ⟨gb, 0, none⟩ k cb (intVs Y) rfl (by omega) hnews hone (by omega) (by unfold maxLen; omega) (by omega) (by simp; omega) _ rfl ?_; intro g2 cap2 w2 hown2 hgrow2 hat2 hlt2; (have HB2 := Lib.hid (AB.two o1 b1 s1 hown2 hgrow2 hat2)); clear hown2 hgrow2 hat2 hlt2 o1 b1 s1 hnews)
            | fail)
          go_wp2
          go_roundw
          case rel => exact ⟨k + 1, by omega, by go_num, Lib.hid (by rw [hn2.out, hn1.out]; exact HB2.out)⟩
          case measure => simp [intOf]; omega
      · obtain rfl : k = l.length := by omega
        have hXl : (numA l l.length).length = l.length := hlA.out
        have hXb := hbA.out
        have hm2 := Lib.hid (hmm.out (numA l l.length))
        generalize numA l l.length = X at *
        obtain ⟨Y, hY⟩ : ∃ Y, Y = (X.map (· + q)).reverse := ⟨_, rfl⟩
        have hYl : Y.length = l.length := by rw [hY]; simp [hXl]
        have hYb : ∀ a ∈ Y, -9223372036854775808 ≤ a ∧ a < 9223372036854775808 := by
          intro a ha
          rw [hY] at ha
          obtain ⟨x, hx, rfl⟩ := List.mem_map.1 (List.mem_reverse.1 ha)
          have := hXb x hx
          omega
        rw [← hY] at HB hm2
        obtain ⟨Aa, ca, ga, rfl, -⟩ := own_form HB.out.oa
        obtain ⟨Ab, cb, gb, rfl, -⟩ := own_form HB.out.ob
        have HMa := HM.out X Aa ca (fun a ha => by have := hXb a ha; omega) (by omega) V20 (Rd.own HB.out.oa)
        have HMb := fun V (hb : Below V20.heap.size V20 V) => HM.out Y Ab cb hYb (by omega) V ((Rd.own HB.out.ob).below hb (Nat.le_refl _))
        rw [hXl] at HMa
        rw [hYl, hm2.out] at HMb
        replace HMa := Lib.hid HMa
        replace HMb := Lib.hid HMb
        have hB := Lib.hid HB.out.bel
        have hsz := HB.out.sz
        replace hY := Lib.hid hY
        clear HB hYb hXb hm2 hmm hlt HM
        generalize mostV X wi = R at *
        go_wp2_with fail
        refine HMa.out.mono ?_
        rintro e w1 ⟨rfl, hb1⟩
        have b1 := Lib.hid (hB.out.trans (hb1.mono hsz))
        have HMb2 := Lib.hid (HMb.out w1 hb1)
        clear HMa HMb hb1
        go_simp
        go_wp2_with fail
        refine HMb2.out.mono ?_
        rintro e w2 ⟨rfl, hb2⟩
        have b2 := Lib.hid (b1.out.trans (hb2.mono b1.out.size))
        have HT2 : Hid (Calls Tryz.prog 12 #[.slice none 0 0] w2 fun e w' => ∃ A2 c2, e = .returned (srcV (crZ []) A2 c2) ∧ Rd w' A2 (linVs (crZ []).lns) ∧ Below w2.heap.size w2 w') := Lib.hid (HT.out w2)
        clear HMb2 hb2 b1 HT
        go_simp
        go_wp2_with fail
        refine HT2.out.mono ?_
        rintro e w3 ⟨A3, c3, rfl, hr3, hb3⟩
        have b3 := Lib.hid (b2.out.trans (hb3.mono b2.out.size))
        have HC3 := Lib.hid (HCk.out A3 c3 w3 hr3)
        generalize srcV (crZ []) A3 c3 = v3 at *
        clear hr3 hb3 HT2 HCk b2
        go_simp
        go_wp2_with fail
        refine HC3.out.mono ?_
        rintro e w4 ⟨rfl, hb4⟩
        have b4 := Lib.hid (b3.out.trans (hb4.mono b3.out.size))
        have HA4 := Lib.hid (hAw.out w4 (kx_keep hK b4.out))
        clear hb4 HC3 b3
        go_simp
        go_wp2_with fail
        refine HA4.out.mono ?_
        rintro e w5 ⟨rfl, hb5⟩
        have b5 := Lib.hid (b4.out.trans (hb5.mono b4.out.size))
        go_simp
        go_wp2
        go_ret
        exact ⟨rfl, b5.out⟩
end Go.Proofs.YtafecnlaodgmkaaGreatDoor
namespace Go.Proofs.YtafecnlaodgmkaaGreatDoor
set_option linter.unusedVariables false
set_option linter.unusedSimpArgs false
open Go.ChangeShapes Go.WideShapes Go.ChangeAt Go.RowKit
set_option maxHeartbeats 1600000 in
theorem xInsI_none (A : Option Addr) (cap : Nat) (w : World) : Calls Tryz.prog 41 #[.slice A 0 cap, .int .i64 0, .int .i64 0] w fun e w' => e = .returned (.tuple #[]) ∧ w' = w := by
  go_enter Tryz.func41, Tryz.ntmps41
  go_wp2
  refine wp_loop_rounds 1 ?_
  rw [rounds_succ]
  go_wp2
  go_end0
  exact ⟨rfl, rfl⟩
set_option maxHeartbeats 1600000 in
set_option maxRecDepth 100000 in
theorem xPdqI_none (A : Option Addr) (cap : Nat) (w : World) : Calls Tryz.prog 28 #[.slice A 0 cap, .int .i64 0, .int .i64 0, .int .i64 0] w fun e w' => e = .returned (.tuple #[]) ∧ w' = w := by
  go_enter Tryz.func28, Tryz.ntmps28
  go_wp2
  refine wp_loop_rounds 1 ?_
  rw [rounds_succ]
  go_wp2_with fail
  refine (xInsI_none A cap _).mono ?_
  rintro e w' ⟨rfl, rfl⟩
  go_wp2
  (try simp only [Exit.inBlock, Exit.then])
  refine bodyPost_ret (results_none rfl _ _ _) rfl ?_
  exact ⟨rfl, rfl⟩
set_option maxHeartbeats 1600000 in
theorem xSortI_none (A : Option Addr) (cap : Nat) (w : World) : Calls Tryz.prog 15 #[.slice A 0 cap] w fun e w' => e = .returned (.tuple #[]) ∧ w' = w := by
  have hLen : ∀ w, Calls Tryz.prog 29 #[.int .u64 0] w fun e w' => e = .returned (.int .i64 0) ∧ w' = w := fun w => Tryz.bits_Len 0 w (by omega) (by omega)
  go_enter Tryz.func15, Tryz.ntmps15
  go_wp2_with fail
  refine (hLen _).mono ?_
  rintro e w' ⟨rfl, rfl⟩
  go_simp
  go_wp2_with fail
  refine (xPdqI_none A cap _).mono ?_
  rintro e w' ⟨rfl, rfl⟩
  go_wp2
  go_end0
  exact ⟨rfl, rfl⟩
theorem xSortI_any (l : List Int) (hn : l.length ≤ 1000000000000) (B : Nat) (A' : Option Addr) (c' : Nat) (w : World) (hown : w.ownsRow B 3 1 (.slice A' l.length c') l.length (intVs l)) (hB : B ≤ w.heap.size) :
    Calls Tryz.prog 15 #[.slice A' l.length c'] w fun e w' => e = .returned (.tuple #[]) ∧ w'.ownsRow B 3 1 (.slice A' l.length c') l.length (intVs (l.mergeSort (fun x y => decide (x ≤ y)))) ∧ Below B w w' := by
  rcases hown.2 with ⟨hv, h0⟩ | ⟨g, cap, cur, hv, hbg, hg, h1, h2, h3, htake⟩
  · injection hv with e1 e2 e3
    obtain rfl : l = [] := List.length_eq_zero_iff.1 h0
    subst e1
    refine (xSortI_none none c' w).mono ?_
    rintro e w' ⟨rfl, rfl⟩
    exact ⟨rfl, by simpa using hown, Below.refl _ _⟩
  · injection hv with e1 e2 e3
    subst e1 e3
    rw [Nat.mul_one] at htake
    have hH : Go.Sort.Holds (Value.int .i64) w g 0 l.toArray := holds_of_blockI hg htake
    have hgl : g < w.heap.size := (Array.getElem?_eq_some_iff.1 hg).1
    refine (calls_of_every_depth fun D => AnyS.slices_Sort_int_in Tryz.sortI D g 0 c' l w hH hgl (by omega)).mono ?_
    rintro e w' ⟨rfl, n, os, rfl⟩
    exact ⟨rfl, ownsRow_sortedI (sort_len l) hbg hg h1 h2 h3, (Below.refl B w).grown (grownBy_sortedI _) hB (fun k hk => by injection hk with hk; omega)⟩
theorem xCloneI_any (l : List Int) (A : Option Addr) (c : Nat) (hn : l.length ≤ 1000000000000) (w : World) (h : Rd w A (intVs l)) :
    Calls Tryz.prog 14 #[.slice A l.length c] w fun e w' => ∃ A' c', e = .returned (.slice A' l.length c') ∧ w'.ownsRow w.heap.size 3 1 (.slice A' l.length c') l.length (intVs l) ∧ Below w.heap.size w w' := by
  by_cases h0 : 0 < l.length
  · obtain ⟨b, o, rfl, hb, hc⟩ := h.ints h0
    refine (Any.slices_Clone_int Tryz.cloneI b o l.length c l w (Nat.le_refl _) (by omega) (fun j hj => by rw [getD_at hj]; exact hc j hj)).mono ?_
    rintro e w' ⟨v', rfl, hown, hne, hb⟩
    rw [List.take_length] at hown
    obtain ⟨A', c', g, hv, _⟩ := own_form hown
    subst hv
    exact ⟨A', c', rfl, hown, hb⟩
  · obtain rfl : l = [] := List.length_eq_zero_iff.1 (by omega)
    cases A with
    | none =>
      refine (Any.slices_Clone_int_nil Tryz.cloneI 0 c w).mono ?_
      rintro e w' ⟨rfl, rfl⟩
      exact ⟨none, 0, rfl, World.ownsRow_nil _ _ _ _, Below.refl _ _⟩
    | some a =>
      refine (Any.slices_Clone_int_zero Tryz.cloneI a c w).mono ?_
      rintro e w' ⟨v', rfl, hown, hne, hb⟩
      obtain ⟨A', c', g, hv, _⟩ := own_form hown
      subst hv
      exact ⟨A', c', rfl, hown, hb⟩
theorem pMost_any (l : List Int) (wi : Int) (A : Option Addr) (c : Nat) (hl : ∀ a ∈ l, -9223372036854775808 ≤ a ∧ a < 9223372036854775808) (hw : -9223372036854775808 ≤ wi ∧ wi < 9223372036854775808) (hn : l.length ≤ 1000000000000) (w : World) (h : Rd w A (intVs l)) :
    Calls Tryz.prog 8 #[.slice A l.length c, .int .i64 wi] w fun e w' => e = .returned (.int .i64 (mostV l wi)) ∧ Below w.heap.size w w' :=
  most_walk l wi A c hl hw hn (fun w h => xCloneI_any l A c hn w h) (fun B A' c' w ho hB => xSortI_any l hn B A' c' w ho hB) w h
end Go.Proofs.YtafecnlaodgmkaaGreatDoor
namespace Go.Proofs.YtafecnlaodgmkaaGreatDoor
set_option linter.unusedVariables false
open Go.ChangeShapes Go.WideShapes Go.ChangeAt Go.RowKit
theorem pCrowded_any {YF : Int → Int} (hYF : ∀ S, YIs S (YF S)) (z : Src) (A : Option Addr) (c : Nat) (w : World) (hK : KX w) (h : Rd w A (linVs z.lns)) (hz : SB z) :
    Calls Tryz.prog 10 #[srcV z A c] w fun e w' => ∃ M, ChP YF z (-9999) 9999 M ∧ e = .returned (.tuple #[.bool (decide (4 ≤ mostV (M.map (·.1)) 129600)), .int .i64 (evE z (-9999) 9999)]) ∧ Below w.heap.size w w' :=
  crowded_walk z A c (fun w h => pExChanges_any hYF z A c (-9999) 9999 w h.1 h.2 hz) (fun l A c hl hn w h => pMost_any l 129600 A c hl (by omega) hn w h) w hK h
theorem mostC : MostC := fun l wi A c hl hw hn w h => pMost_any l wi A c hl hw hn w h
theorem crowdC : CrowdC := fun l hn hr hb A c w hK h => by
  obtain ⟨YF, hYF⟩ := yf_ex
  refine (pCrowded_any hYF (crZ l) A c w hK h (SB.of (crZ_ok hn hb))).mono ?_
  rintro e w' ⟨M, hP, rfl, hb2⟩
  rw [cr_main hn hr hb hP, cr_err hn hb]
  exact ⟨rfl, hb2⟩
theorem awakeC : AwakeC := fun w hK => awake18_walk crowdC mostC w hK
theorem crowdMost_walk (l : List Int) (A : Option Addr) (c : Nat) (wi : Int) (hl : ∀ a ∈ l, -9223372036854775808 ≤ a ∧ a < 9223372036854775808) (hw : -9223372036854775808 ≤ wi ∧ wi < 9223372036854775808) (w : World) (h : Rd w A (intVs l)) (hK : KX w) :
    Calls Tryz.prog 3 #[.slice A l.length c, .int .i64 wi] w fun e w' => e = .returned (.bool true) ∧ Below w.heap.size w w' := crowdMost_over mostC awakeC l A c wi hl hw w h hK
theorem crowdAts_walk (l : List Int) (A : Option Addr) (c : Nat) (hl : ∀ a ∈ l, -9223372036854775808 ≤ a ∧ a < 9223372036854775808) (w : World) (h : Rd w A (intVs l)) (hK : KX w) :
    Calls Tryz.prog 5 #[.slice A l.length c] w fun e w' => e = .returned (.bool true) ∧ Below w.heap.size w w' := crowdAts_over crowdC awakeC l A c hl w h hK
theorem crowdOrder_walk (l : List Int) (A : Option Addr) (c : Nat) (by_ wi : Int) (hl : ∀ a ∈ l, -9223372036854775808 ≤ a ∧ a < 9223372036854775808) (hy : -9223372036854775808 ≤ by_ ∧ by_ < 9223372036854775808) (hw : -9223372036854775808 ≤ wi ∧ wi < 9223372036854775808) (w : World) (h : Rd w A (intVs l)) (hK : KX w) :
    Calls Tryz.prog 6 #[.slice A l.length c, .int .i64 by_, .int .i64 wi] w fun e w' => e = .returned (.bool true) ∧ Below w.heap.size w w' := crowdOrder_over mostC awakeC l A c by_ wi hl hy hw w h hK
end Go.Proofs.YtafecnlaodgmkaaGreatDoor
