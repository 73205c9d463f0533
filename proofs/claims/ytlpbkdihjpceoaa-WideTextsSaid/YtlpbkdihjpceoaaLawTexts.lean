/- The walk of the law WideTexts. -/
import Derived.Test.YtlpbkdihjpceoaaRefV
import Derived.Test.YtlpbkdihjpceoaaAwake
import Derived.Test.YtlpbkdihjpceoaaEqlW
import Derived.Test.YtlpbkdihjpceoaaLawBack
import Derived.Deep.DrawnRows
namespace Go.Proofs.Ytlpbkdihjpceoaa
set_option linter.unusedVariables false
set_option linter.unusedSimpArgs false
open Go.ChangeShapes Go.WideShapes Go.ChangeAt Go.RowKit

theorem txt_self (s : ByteArray) (he : pErr s.data.toList = 0) : (⟨(txt (hi (pNum s.data.toList)) (lo (pNum s.data.toList))).toArray⟩ : ByteArray) = s := by
  rw [parse_txt _ he]
theorem parse_own (h l : Nat) (u : U h) (v : U l) (w : World) :
    Calls Try.prog 10 #[.string ⟨(txt h l).toArray⟩] w fun e w' => e = .returned (.tuple #[.agg #[.int .u64 h, .int .u64 l], .int .i64 0]) ∧ Below w.heap.size w w' := by
  have x := parse_any ⟨(txt h l).toArray⟩ w
  obtain ⟨e1, e2⟩ := txt_parse h l u v
  rw [show (⟨(txt h l).toArray⟩ : ByteArray).data.toList = txt h l from rfl, e1, e2, hi_num u v, lo_num v] at x
  exact x
set_option maxHeartbeats 6400000 in
set_option maxRecDepth 100000 in
theorem wideTexts_ok (h l : Nat) (s : ByteArray) (u : U h) (v : U l) (he : pErr s.data.toList = 0) (w : World) :
    Calls Try.prog 3 #[.agg #[.int .u64 h, .int .u64 l], .string s] w fun e w' => e = .returned (.bool true) ∧ Below w.heap.size w w' := by
  have H1 := Lib.hid (text_any h l u v)
  have H2 := Lib.hid (parse_own h l u v)
  have X3 := parse_any s
  have X4 := refParse_any s
  have H5 := Lib.hid (refText_any h l u v)
  have X6 := text_any (hi (pNum s.data.toList)) (lo (pNum s.data.toList)) (hi_U _) (lo_U _)
  rw [txt_self s he] at X6
  rw [he, show ((0 : Nat) : Int) = 0 from rfl] at X3 X4
  have H3 := Lib.hid X3
  have H4 := Lib.hid X4
  have H6 := Lib.hid X6
  have H7 := Lib.hid awake_any
  clear X3 X4 X6 he u v
  generalize hi (pNum s.data.toList) = p1 at *
  generalize lo (pNum s.data.toList) = p2 at *
  generalize (⟨(txt h l).toArray⟩ : ByteArray) = T at *
  go_enter Try.func3, Try.ntmps3
  go_wp2_with fail
  
  refine (H1.out _).mono ?_
  rintro e V1 ⟨rfl, hb1⟩
  have B1 := Lib.hid (((Below.refl w.heap.size w).alloc (Nat.le_refl _) _).trans (hb1.mono (by first | assumption | (simp <;> omega) | (simp; done))))
  have A1 := Lib.hid (row_call hb1 (heap_alloc_new _ _))
  clear hb1
  have A1_0 : V1.cell? ⟨w.heap.size, 0, none⟩ = some (.int .u64 h) := cell_of_row _ _ _ _ _ _ A1.out
  have A1_1 : V1.cell? ⟨w.heap.size, 1, none⟩ = some (.int .u64 l) := cell_of_row _ _ _ _ _ _ A1.out
  have zA1 := lt_of_heap A1.out
  go_simp
  go_wp2_with fail
  refine (H2.out _).mono ?_
  rintro e V2 ⟨rfl, hb2⟩
  clear A1_0 A1_1 zA1
  have B2 : Hid (Below w.heap.size w V2) := by first | exact Lib.hid ((B1.out).trans (hb2.mono (by have := B1.out.size; first | assumption | (simp <;> omega) | (simp; done)))) | exact Lib.hid (((B1.out).alloc (B1.out.size) _).trans (hb2.mono (by have := B1.out.size; first | assumption | (simp <;> omega) | (simp; done)))) | exact Lib.hid ((((B1.out).alloc (B1.out.size) _).alloc (by have := B1.out.size; simp <;> omega) _).trans (hb2.mono (by have := B1.out.size; first | assumption | (simp <;> omega) | (simp; done)))) | exact Lib.hid (((((B1.out).alloc (B1.out.size) _).alloc (by have := B1.out.size; simp <;> omega) _).alloc (by have := B1.out.size; simp <;> omega) _).trans (hb2.mono (by have := B1.out.size; first | assumption | (simp <;> omega) | (simp; done))))
  first | replace A1 := Lib.hid (row_call hb2 A1.out) | replace A1 := Lib.hid (row_call hb2 (row_alloc A1.out _)) | replace A1 := Lib.hid (row_call hb2 (row_alloc (row_alloc A1.out _) _)) | replace A1 := Lib.hid (row_call hb2 (row_alloc (row_alloc (row_alloc A1.out _) _) _))
  clear hb2
  have A1_0 : V2.cell? ⟨w.heap.size, 0, none⟩ = some (.int .u64 h) := cell_of_row _ _ _ _ _ _ A1.out
  have A1_1 : V2.cell? ⟨w.heap.size, 1, none⟩ = some (.int .u64 l) := cell_of_row _ _ _ _ _ _ A1.out
  have zA1 := lt_of_heap A1.out
  go_simp
  go_wp2_with fail
  refine (H3.out _).mono ?_
  rintro e V3 ⟨rfl, hb3⟩
  clear A1_0 A1_1 zA1
  have nA1B1 := Lib.hid (lt_of_heap A1.out)
  have B3 := Lib.hid (((B2.out).alloc (B2.out.size) _).trans (hb3.mono (by have := B2.out.size; first | assumption | (simp <;> omega) | (simp; done))))
  replace A1 := Lib.hid (row_call hb3 (row_alloc A1.out _))
  have B1 := Lib.hid (row_call hb3 (heap_alloc_new _ _))
  clear hb3
  have A1_0 : V3.cell? ⟨w.heap.size, 0, none⟩ = some (.int .u64 h) := cell_of_row _ _ _ _ _ _ A1.out
  have A1_1 : V3.cell? ⟨w.heap.size, 1, none⟩ = some (.int .u64 l) := cell_of_row _ _ _ _ _ _ A1.out
  have B1_0 : V3.cell? ⟨V2.heap.size, 0, none⟩ = some (.int .u64 h) := cell_of_row _ _ _ _ _ _ B1.out
  have B1_1 : V3.cell? ⟨V2.heap.size, 1, none⟩ = some (.int .u64 l) := cell_of_row _ _ _ _ _ _ B1.out
  have zA1 := lt_of_heap A1.out
  have zB1 := lt_of_heap B1.out
  go_simp
  go_wp2_with fail
  refine (H4.out _).mono ?_
  rintro e V4 ⟨rfl, hb4⟩
  clear A1_0 A1_1 zA1 B1_0 B1_1 zB1
  have nA1C1 := Lib.hid (lt_of_heap A1.out)
  have nB1C1 := Lib.hid (lt_of_heap B1.out)
  have B4 := Lib.hid (((B3.out).alloc (B3.out.size) _).trans (hb4.mono (by have := B3.out.size; first | assumption | (simp <;> omega) | (simp; done))))
  replace A1 := Lib.hid (row_call hb4 (row_alloc A1.out _))
  replace B1 := Lib.hid (row_call hb4 (row_alloc B1.out _))
  have C1 := Lib.hid (row_call hb4 (heap_alloc_new _ _))
  clear hb4
  have A1_0 : V4.cell? ⟨w.heap.size, 0, none⟩ = some (.int .u64 h) := cell_of_row _ _ _ _ _ _ A1.out
  have A1_1 : V4.cell? ⟨w.heap.size, 1, none⟩ = some (.int .u64 l) := cell_of_row _ _ _ _ _ _ A1.out
  have B1_0 : V4.cell? ⟨V2.heap.size, 0, none⟩ = some (.int .u64 h) := cell_of_row _ _ _ _ _ _ B1.out
  have B1_1 : V4.cell? ⟨V2.heap.size, 1, none⟩ = some (.int .u64 l) := cell_of_row _ _ _ _ _ _ B1.out
  have C1_0 : V4.cell? ⟨V3.heap.size, 0, none⟩ = some (.int .u64 p1) := cell_of_row _ _ _ _ _ _ C1.out
  have C1_1 : V4.cell? ⟨V3.heap.size, 1, none⟩ = some (.int .u64 p2) := cell_of_row _ _ _ _ _ _ C1.out
  have zA1 := lt_of_heap A1.out
  have zB1 := lt_of_heap B1.out
  have zC1 := lt_of_heap C1.out
  go_simp
  go_wp2_with fail
  refine (H5.out _).mono ?_
  rintro e V5 ⟨rfl, hb5⟩
  clear A1_0 A1_1 zA1 B1_0 B1_1 zB1 C1_0 C1_1 zC1
  have nA1D1 := Lib.hid (lt_of_heap A1.out)
  have nB1D1 := Lib.hid (lt_of_heap B1.out)
  have nC1D1 := Lib.hid (lt_of_heap C1.out)
  have B5 := Lib.hid (((B4.out).alloc (B4.out.size) _).trans (hb5.mono (by have := B4.out.size; first | assumption | (simp <;> omega) | (simp; done))))
  replace A1 := Lib.hid (row_call hb5 (row_alloc A1.out _))
  replace B1 := Lib.hid (row_call hb5 (row_alloc B1.out _))
  replace C1 := Lib.hid (row_call hb5 (row_alloc C1.out _))
  have D1 := Lib.hid (row_call hb5 (heap_alloc_new _ _))
  clear hb5
  have A1_0 : V5.cell? ⟨w.heap.size, 0, none⟩ = some (.int .u64 h) := cell_of_row _ _ _ _ _ _ A1.out
  have A1_1 : V5.cell? ⟨w.heap.size, 1, none⟩ = some (.int .u64 l) := cell_of_row _ _ _ _ _ _ A1.out
  have B1_0 : V5.cell? ⟨V2.heap.size, 0, none⟩ = some (.int .u64 h) := cell_of_row _ _ _ _ _ _ B1.out
  have B1_1 : V5.cell? ⟨V2.heap.size, 1, none⟩ = some (.int .u64 l) := cell_of_row _ _ _ _ _ _ B1.out
  have C1_0 : V5.cell? ⟨V3.heap.size, 0, none⟩ = some (.int .u64 p1) := cell_of_row _ _ _ _ _ _ C1.out
  have C1_1 : V5.cell? ⟨V3.heap.size, 1, none⟩ = some (.int .u64 p2) := cell_of_row _ _ _ _ _ _ C1.out
  have D1_0 : V5.cell? ⟨V4.heap.size, 0, none⟩ = some (.int .u64 p1) := cell_of_row _ _ _ _ _ _ D1.out
  have D1_1 : V5.cell? ⟨V4.heap.size, 1, none⟩ = some (.int .u64 p2) := cell_of_row _ _ _ _ _ _ D1.out
  have zA1 := lt_of_heap A1.out
  have zB1 := lt_of_heap B1.out
  have zC1 := lt_of_heap C1.out
  have zD1 := lt_of_heap D1.out
  go_simp
  go_wp2_with fail
  refine (H6.out _).mono ?_
  rintro e V6 ⟨rfl, hb6⟩
  clear A1_0 A1_1 zA1 B1_0 B1_1 zB1 C1_0 C1_1 zC1 D1_0 D1_1 zD1
  have B6 : Hid (Below w.heap.size w V6) := by first | exact Lib.hid ((B5.out).trans (hb6.mono (by have := B5.out.size; first | assumption | (simp <;> omega) | (simp; done)))) | exact Lib.hid (((B5.out).alloc (B5.out.size) _).trans (hb6.mono (by have := B5.out.size; first | assumption | (simp <;> omega) | (simp; done)))) | exact Lib.hid ((((B5.out).alloc (B5.out.size) _).alloc (by have := B5.out.size; simp <;> omega) _).trans (hb6.mono (by have := B5.out.size; first | assumption | (simp <;> omega) | (simp; done)))) | exact Lib.hid (((((B5.out).alloc (B5.out.size) _).alloc (by have := B5.out.size; simp <;> omega) _).alloc (by have := B5.out.size; simp <;> omega) _).trans (hb6.mono (by have := B5.out.size; first | assumption | (simp <;> omega) | (simp; done))))
  first | replace A1 := Lib.hid (row_call hb6 A1.out) | replace A1 := Lib.hid (row_call hb6 (row_alloc A1.out _)) | replace A1 := Lib.hid (row_call hb6 (row_alloc (row_alloc A1.out _) _)) | replace A1 := Lib.hid (row_call hb6 (row_alloc (row_alloc (row_alloc A1.out _) _) _))
  first | replace B1 := Lib.hid (row_call hb6 B1.out) | replace B1 := Lib.hid (row_call hb6 (row_alloc B1.out _)) | replace B1 := Lib.hid (row_call hb6 (row_alloc (row_alloc B1.out _) _)) | replace B1 := Lib.hid (row_call hb6 (row_alloc (row_alloc (row_alloc B1.out _) _) _))
  first | replace C1 := Lib.hid (row_call hb6 C1.out) | replace C1 := Lib.hid (row_call hb6 (row_alloc C1.out _)) | replace C1 := Lib.hid (row_call hb6 (row_alloc (row_alloc C1.out _) _)) | replace C1 := Lib.hid (row_call hb6 (row_alloc (row_alloc (row_alloc C1.out _) _) _))
  first | replace D1 := Lib.hid (row_call hb6 D1.out) | replace D1 := Lib.hid (row_call hb6 (row_alloc D1.out _)) | replace D1 := Lib.hid (row_call hb6 (row_alloc (row_alloc D1.out _) _)) | replace D1 := Lib.hid (row_call hb6 (row_alloc (row_alloc (row_alloc D1.out _) _) _))
  clear hb6
  have A1_0 : V6.cell? ⟨w.heap.size, 0, none⟩ = some (.int .u64 h) := cell_of_row _ _ _ _ _ _ A1.out
  have A1_1 : V6.cell? ⟨w.heap.size, 1, none⟩ = some (.int .u64 l) := cell_of_row _ _ _ _ _ _ A1.out
  have B1_0 : V6.cell? ⟨V2.heap.size, 0, none⟩ = some (.int .u64 h) := cell_of_row _ _ _ _ _ _ B1.out
  have B1_1 : V6.cell? ⟨V2.heap.size, 1, none⟩ = some (.int .u64 l) := cell_of_row _ _ _ _ _ _ B1.out
  have C1_0 : V6.cell? ⟨V3.heap.size, 0, none⟩ = some (.int .u64 p1) := cell_of_row _ _ _ _ _ _ C1.out
  have C1_1 : V6.cell? ⟨V3.heap.size, 1, none⟩ = some (.int .u64 p2) := cell_of_row _ _ _ _ _ _ C1.out
  have D1_0 : V6.cell? ⟨V4.heap.size, 0, none⟩ = some (.int .u64 p1) := cell_of_row _ _ _ _ _ _ D1.out
  have D1_1 : V6.cell? ⟨V4.heap.size, 1, none⟩ = some (.int .u64 p2) := cell_of_row _ _ _ _ _ _ D1.out
  have zA1 := lt_of_heap A1.out
  have zB1 := lt_of_heap B1.out
  have zC1 := lt_of_heap C1.out
  have zD1 := lt_of_heap D1.out
  go_simp
  go_wp2_with fail
  refine (H7.out _).mono ?_
  rintro e V7 ⟨rfl, hb7⟩
  clear A1_0 A1_1 zA1 B1_0 B1_1 zB1 C1_0 C1_1 zC1 D1_0 D1_1 zD1
  have B7 : Hid (Below w.heap.size w V7) := by first | exact Lib.hid ((B6.out).trans (hb7.mono (by have := B6.out.size; first | assumption | (simp <;> omega) | (simp; done)))) | exact Lib.hid (((B6.out).alloc (B6.out.size) _).trans (hb7.mono (by have := B6.out.size; first | assumption | (simp <;> omega) | (simp; done)))) | exact Lib.hid ((((B6.out).alloc (B6.out.size) _).alloc (by have := B6.out.size; simp <;> omega) _).trans (hb7.mono (by have := B6.out.size; first | assumption | (simp <;> omega) | (simp; done)))) | exact Lib.hid (((((B6.out).alloc (B6.out.size) _).alloc (by have := B6.out.size; simp <;> omega) _).alloc (by have := B6.out.size; simp <;> omega) _).trans (hb7.mono (by have := B6.out.size; first | assumption | (simp <;> omega) | (simp; done))))
  first | replace A1 := Lib.hid (row_call hb7 A1.out) | replace A1 := Lib.hid (row_call hb7 (row_alloc A1.out _)) | replace A1 := Lib.hid (row_call hb7 (row_alloc (row_alloc A1.out _) _)) | replace A1 := Lib.hid (row_call hb7 (row_alloc (row_alloc (row_alloc A1.out _) _) _))
  first | replace B1 := Lib.hid (row_call hb7 B1.out) | replace B1 := Lib.hid (row_call hb7 (row_alloc B1.out _)) | replace B1 := Lib.hid (row_call hb7 (row_alloc (row_alloc B1.out _) _)) | replace B1 := Lib.hid (row_call hb7 (row_alloc (row_alloc (row_alloc B1.out _) _) _))
  first | replace C1 := Lib.hid (row_call hb7 C1.out) | replace C1 := Lib.hid (row_call hb7 (row_alloc C1.out _)) | replace C1 := Lib.hid (row_call hb7 (row_alloc (row_alloc C1.out _) _)) | replace C1 := Lib.hid (row_call hb7 (row_alloc (row_alloc (row_alloc C1.out _) _) _))
  first | replace D1 := Lib.hid (row_call hb7 D1.out) | replace D1 := Lib.hid (row_call hb7 (row_alloc D1.out _)) | replace D1 := Lib.hid (row_call hb7 (row_alloc (row_alloc D1.out _) _)) | replace D1 := Lib.hid (row_call hb7 (row_alloc (row_alloc (row_alloc D1.out _) _) _))
  clear hb7
  have A1_0 : V7.cell? ⟨w.heap.size, 0, none⟩ = some (.int .u64 h) := cell_of_row _ _ _ _ _ _ A1.out
  have A1_1 : V7.cell? ⟨w.heap.size, 1, none⟩ = some (.int .u64 l) := cell_of_row _ _ _ _ _ _ A1.out
  have B1_0 : V7.cell? ⟨V2.heap.size, 0, none⟩ = some (.int .u64 h) := cell_of_row _ _ _ _ _ _ B1.out
  have B1_1 : V7.cell? ⟨V2.heap.size, 1, none⟩ = some (.int .u64 l) := cell_of_row _ _ _ _ _ _ B1.out
  have C1_0 : V7.cell? ⟨V3.heap.size, 0, none⟩ = some (.int .u64 p1) := cell_of_row _ _ _ _ _ _ C1.out
  have C1_1 : V7.cell? ⟨V3.heap.size, 1, none⟩ = some (.int .u64 p2) := cell_of_row _ _ _ _ _ _ C1.out
  have D1_0 : V7.cell? ⟨V4.heap.size, 0, none⟩ = some (.int .u64 p1) := cell_of_row _ _ _ _ _ _ D1.out
  have D1_1 : V7.cell? ⟨V4.heap.size, 1, none⟩ = some (.int .u64 p2) := cell_of_row _ _ _ _ _ _ D1.out
  have zA1 := lt_of_heap A1.out
  have zB1 := lt_of_heap B1.out
  have zC1 := lt_of_heap C1.out
  have zD1 := lt_of_heap D1.out
  go_simp
  go_wp2
  go_ret
  exact ⟨rfl, by first | exact B7.out | exact B7.out.alloc B7.out.size _⟩
set_option maxHeartbeats 6400000 in
set_option maxRecDepth 100000 in
theorem wideTexts_err (h l : Nat) (s : ByteArray) (u : U h) (v : U l) (he : pErr s.data.toList ≠ 0) (w : World) :
    Calls Try.prog 3 #[.agg #[.int .u64 h, .int .u64 l], .string s] w fun e w' => e = .returned (.bool true) ∧ Below w.heap.size w w' := by
  have H1 := Lib.hid (text_any h l u v)
  have H2 := Lib.hid (parse_own h l u v)
  have H3 := Lib.hid (parse_any s)
  have H4 := Lib.hid (refParse_any s)
  have H5 := Lib.hid (refText_any h l u v)
  have H7 := Lib.hid awake_any
  clear u v
  generalize hi (pNum s.data.toList) = p1 at *
  generalize lo (pNum s.data.toList) = p2 at *
  have he2 : ¬ ((pErr s.data.toList : Nat) : Int) = 0 := by omega
  generalize ((pErr s.data.toList : Nat) : Int) = E at *
  generalize (⟨(txt h l).toArray⟩ : ByteArray) = T at *
  have f1 : (E != 0) = true := by rw [bne_iff_ne]; exact he2
  clear he he2
  go_enter Try.func3, Try.ntmps3
  go_wp2_with fail
  
  refine (H1.out _).mono ?_
  rintro e V1 ⟨rfl, hb1⟩
  have B1 := Lib.hid (((Below.refl w.heap.size w).alloc (Nat.le_refl _) _).trans (hb1.mono (by first | assumption | (simp <;> omega) | (simp; done))))
  have A1 := Lib.hid (row_call hb1 (heap_alloc_new _ _))
  clear hb1
  have A1_0 : V1.cell? ⟨w.heap.size, 0, none⟩ = some (.int .u64 h) := cell_of_row _ _ _ _ _ _ A1.out
  have A1_1 : V1.cell? ⟨w.heap.size, 1, none⟩ = some (.int .u64 l) := cell_of_row _ _ _ _ _ _ A1.out
  have zA1 := lt_of_heap A1.out
  go_simp
  go_wp2_with fail
  refine (H2.out _).mono ?_
  rintro e V2 ⟨rfl, hb2⟩
  clear A1_0 A1_1 zA1
  have B2 : Hid (Below w.heap.size w V2) := by first | exact Lib.hid ((B1.out).trans (hb2.mono (by have := B1.out.size; first | assumption | (simp <;> omega) | (simp; done)))) | exact Lib.hid (((B1.out).alloc (B1.out.size) _).trans (hb2.mono (by have := B1.out.size; first | assumption | (simp <;> omega) | (simp; done)))) | exact Lib.hid ((((B1.out).alloc (B1.out.size) _).alloc (by have := B1.out.size; simp <;> omega) _).trans (hb2.mono (by have := B1.out.size; first | assumption | (simp <;> omega) | (simp; done)))) | exact Lib.hid (((((B1.out).alloc (B1.out.size) _).alloc (by have := B1.out.size; simp <;> omega) _).alloc (by have := B1.out.size; simp <;> omega) _).trans (hb2.mono (by have := B1.out.size; first | assumption | (simp <;> omega) | (simp; done))))
  first | replace A1 := Lib.hid (row_call hb2 A1.out) | replace A1 := Lib.hid (row_call hb2 (row_alloc A1.out _)) | replace A1 := Lib.hid (row_call hb2 (row_alloc (row_alloc A1.out _) _)) | replace A1 := Lib.hid (row_call hb2 (row_alloc (row_alloc (row_alloc A1.out _) _) _))
  clear hb2
  have A1_0 : V2.cell? ⟨w.heap.size, 0, none⟩ = some (.int .u64 h) := cell_of_row _ _ _ _ _ _ A1.out
  have A1_1 : V2.cell? ⟨w.heap.size, 1, none⟩ = some (.int .u64 l) := cell_of_row _ _ _ _ _ _ A1.out
  have zA1 := lt_of_heap A1.out
  go_simp
  go_wp2_with fail
  refine (H3.out _).mono ?_
  rintro e V3 ⟨rfl, hb3⟩
  clear A1_0 A1_1 zA1
  have nA1B1 := Lib.hid (lt_of_heap A1.out)
  have B3 := Lib.hid (((B2.out).alloc (B2.out.size) _).trans (hb3.mono (by have := B2.out.size; first | assumption | (simp <;> omega) | (simp; done))))
  replace A1 := Lib.hid (row_call hb3 (row_alloc A1.out _))
  have B1 := Lib.hid (row_call hb3 (heap_alloc_new _ _))
  clear hb3
  have A1_0 : V3.cell? ⟨w.heap.size, 0, none⟩ = some (.int .u64 h) := cell_of_row _ _ _ _ _ _ A1.out
  have A1_1 : V3.cell? ⟨w.heap.size, 1, none⟩ = some (.int .u64 l) := cell_of_row _ _ _ _ _ _ A1.out
  have B1_0 : V3.cell? ⟨V2.heap.size, 0, none⟩ = some (.int .u64 h) := cell_of_row _ _ _ _ _ _ B1.out
  have B1_1 : V3.cell? ⟨V2.heap.size, 1, none⟩ = some (.int .u64 l) := cell_of_row _ _ _ _ _ _ B1.out
  have zA1 := lt_of_heap A1.out
  have zB1 := lt_of_heap B1.out
  go_simp
  go_wp2_with fail
  refine (H4.out _).mono ?_
  rintro e V4 ⟨rfl, hb4⟩
  clear A1_0 A1_1 zA1 B1_0 B1_1 zB1
  have nA1C1 := Lib.hid (lt_of_heap A1.out)
  have nB1C1 := Lib.hid (lt_of_heap B1.out)
  have B4 := Lib.hid (((B3.out).alloc (B3.out.size) _).trans (hb4.mono (by have := B3.out.size; first | assumption | (simp <;> omega) | (simp; done))))
  replace A1 := Lib.hid (row_call hb4 (row_alloc A1.out _))
  replace B1 := Lib.hid (row_call hb4 (row_alloc B1.out _))
  have C1 := Lib.hid (row_call hb4 (heap_alloc_new _ _))
  clear hb4
  have A1_0 : V4.cell? ⟨w.heap.size, 0, none⟩ = some (.int .u64 h) := cell_of_row _ _ _ _ _ _ A1.out
  have A1_1 : V4.cell? ⟨w.heap.size, 1, none⟩ = some (.int .u64 l) := cell_of_row _ _ _ _ _ _ A1.out
  have B1_0 : V4.cell? ⟨V2.heap.size, 0, none⟩ = some (.int .u64 h) := cell_of_row _ _ _ _ _ _ B1.out
  have B1_1 : V4.cell? ⟨V2.heap.size, 1, none⟩ = some (.int .u64 l) := cell_of_row _ _ _ _ _ _ B1.out
  have C1_0 : V4.cell? ⟨V3.heap.size, 0, none⟩ = some (.int .u64 p1) := cell_of_row _ _ _ _ _ _ C1.out
  have C1_1 : V4.cell? ⟨V3.heap.size, 1, none⟩ = some (.int .u64 p2) := cell_of_row _ _ _ _ _ _ C1.out
  have zA1 := lt_of_heap A1.out
  have zB1 := lt_of_heap B1.out
  have zC1 := lt_of_heap C1.out
  go_simp
  go_wp2_with fail
  refine (H5.out _).mono ?_
  rintro e V5 ⟨rfl, hb5⟩
  clear A1_0 A1_1 zA1 B1_0 B1_1 zB1 C1_0 C1_1 zC1
  have nA1D1 := Lib.hid (lt_of_heap A1.out)
  have nB1D1 := Lib.hid (lt_of_heap B1.out)
  have nC1D1 := Lib.hid (lt_of_heap C1.out)
  have B5 := Lib.hid (((B4.out).alloc (B4.out.size) _).trans (hb5.mono (by have := B4.out.size; first | assumption | (simp <;> omega) | (simp; done))))
  replace A1 := Lib.hid (row_call hb5 (row_alloc A1.out _))
  replace B1 := Lib.hid (row_call hb5 (row_alloc B1.out _))
  replace C1 := Lib.hid (row_call hb5 (row_alloc C1.out _))
  have D1 := Lib.hid (row_call hb5 (heap_alloc_new _ _))
  clear hb5
  have A1_0 : V5.cell? ⟨w.heap.size, 0, none⟩ = some (.int .u64 h) := cell_of_row _ _ _ _ _ _ A1.out
  have A1_1 : V5.cell? ⟨w.heap.size, 1, none⟩ = some (.int .u64 l) := cell_of_row _ _ _ _ _ _ A1.out
  have B1_0 : V5.cell? ⟨V2.heap.size, 0, none⟩ = some (.int .u64 h) := cell_of_row _ _ _ _ _ _ B1.out
  have B1_1 : V5.cell? ⟨V2.heap.size, 1, none⟩ = some (.int .u64 l) := cell_of_row _ _ _ _ _ _ B1.out
  have C1_0 : V5.cell? ⟨V3.heap.size, 0, none⟩ = some (.int .u64 p1) := cell_of_row _ _ _ _ _ _ C1.out
  have C1_1 : V5.cell? ⟨V3.heap.size, 1, none⟩ = some (.int .u64 p2) := cell_of_row _ _ _ _ _ _ C1.out
  have D1_0 : V5.cell? ⟨V4.heap.size, 0, none⟩ = some (.int .u64 p1) := cell_of_row _ _ _ _ _ _ D1.out
  have D1_1 : V5.cell? ⟨V4.heap.size, 1, none⟩ = some (.int .u64 p2) := cell_of_row _ _ _ _ _ _ D1.out
  have zA1 := lt_of_heap A1.out
  have zB1 := lt_of_heap B1.out
  have zC1 := lt_of_heap C1.out
  have zD1 := lt_of_heap D1.out
  go_simp
  go_wp2_with fail
  refine (H7.out _).mono ?_
  rintro e V6 ⟨rfl, hb6⟩
  clear A1_0 A1_1 zA1 B1_0 B1_1 zB1 C1_0 C1_1 zC1 D1_0 D1_1 zD1
  have B6 : Hid (Below w.heap.size w V6) := by first | exact Lib.hid ((B5.out).trans (hb6.mono (by have := B5.out.size; first | assumption | (simp <;> omega) | (simp; done)))) | exact Lib.hid (((B5.out).alloc (B5.out.size) _).trans (hb6.mono (by have := B5.out.size; first | assumption | (simp <;> omega) | (simp; done)))) | exact Lib.hid ((((B5.out).alloc (B5.out.size) _).alloc (by have := B5.out.size; simp <;> omega) _).trans (hb6.mono (by have := B5.out.size; first | assumption | (simp <;> omega) | (simp; done)))) | exact Lib.hid (((((B5.out).alloc (B5.out.size) _).alloc (by have := B5.out.size; simp <;> omega) _).alloc (by have := B5.out.size; simp <;> omega) _).trans (hb6.mono (by have := B5.out.size; first | assumption | (simp <;> omega) | (simp; done))))
  first | replace A1 := Lib.hid (row_call hb6 A1.out) | replace A1 := Lib.hid (row_call hb6 (row_alloc A1.out _)) | replace A1 := Lib.hid (row_call hb6 (row_alloc (row_alloc A1.out _) _)) | replace A1 := Lib.hid (row_call hb6 (row_alloc (row_alloc (row_alloc A1.out _) _) _))
  first | replace B1 := Lib.hid (row_call hb6 B1.out) | replace B1 := Lib.hid (row_call hb6 (row_alloc B1.out _)) | replace B1 := Lib.hid (row_call hb6 (row_alloc (row_alloc B1.out _) _)) | replace B1 := Lib.hid (row_call hb6 (row_alloc (row_alloc (row_alloc B1.out _) _) _))
  first | replace C1 := Lib.hid (row_call hb6 C1.out) | replace C1 := Lib.hid (row_call hb6 (row_alloc C1.out _)) | replace C1 := Lib.hid (row_call hb6 (row_alloc (row_alloc C1.out _) _)) | replace C1 := Lib.hid (row_call hb6 (row_alloc (row_alloc (row_alloc C1.out _) _) _))
  first | replace D1 := Lib.hid (row_call hb6 D1.out) | replace D1 := Lib.hid (row_call hb6 (row_alloc D1.out _)) | replace D1 := Lib.hid (row_call hb6 (row_alloc (row_alloc D1.out _) _)) | replace D1 := Lib.hid (row_call hb6 (row_alloc (row_alloc (row_alloc D1.out _) _) _))
  clear hb6
  have A1_0 : V6.cell? ⟨w.heap.size, 0, none⟩ = some (.int .u64 h) := cell_of_row _ _ _ _ _ _ A1.out
  have A1_1 : V6.cell? ⟨w.heap.size, 1, none⟩ = some (.int .u64 l) := cell_of_row _ _ _ _ _ _ A1.out
  have B1_0 : V6.cell? ⟨V2.heap.size, 0, none⟩ = some (.int .u64 h) := cell_of_row _ _ _ _ _ _ B1.out
  have B1_1 : V6.cell? ⟨V2.heap.size, 1, none⟩ = some (.int .u64 l) := cell_of_row _ _ _ _ _ _ B1.out
  have C1_0 : V6.cell? ⟨V3.heap.size, 0, none⟩ = some (.int .u64 p1) := cell_of_row _ _ _ _ _ _ C1.out
  have C1_1 : V6.cell? ⟨V3.heap.size, 1, none⟩ = some (.int .u64 p2) := cell_of_row _ _ _ _ _ _ C1.out
  have D1_0 : V6.cell? ⟨V4.heap.size, 0, none⟩ = some (.int .u64 p1) := cell_of_row _ _ _ _ _ _ D1.out
  have D1_1 : V6.cell? ⟨V4.heap.size, 1, none⟩ = some (.int .u64 p2) := cell_of_row _ _ _ _ _ _ D1.out
  have zA1 := lt_of_heap A1.out
  have zB1 := lt_of_heap B1.out
  have zC1 := lt_of_heap C1.out
  have zD1 := lt_of_heap D1.out
  go_simp
  go_wp2
  go_ret
  exact ⟨rfl, by first | exact B6.out | exact B6.out.alloc B6.out.size _⟩
theorem wideTexts_walk (h l : Nat) (s : ByteArray) (u : U h) (v : U l) (hs : s.size ≤ 9223372036854775807) (w : World) :
    Calls Try.prog 3 #[.agg #[.int .u64 h, .int .u64 l], .string s] w fun e w' => e = .returned (.bool true) ∧ Below w.heap.size w w' := by
  by_cases he : pErr s.data.toList = 0
  · exact wideTexts_ok h l s u v he w
  · exact wideTexts_err h l s u v he w
end Go.Proofs.Ytlpbkdihjpceoaa
