/- Plain facts on numbers of 128 bits, bit rows and their carries: no program in sight. -/
import Derived.WalkKit
import Derived.Laws.Bits64b
import Derived.Laws.BitsAllLaws
namespace Go.Proofs.Ytlpbkdihjpceoaa
set_option linter.unusedVariables false
open Go.RowKit

/-- a number of 64 bits. -/
def U (n : Nat) : Prop := n < 18446744073709551616
@[irreducible] def num (h l : Nat) : Nat := h * 18446744073709551616 + l
@[irreducible] def hi (n : Nat) : Nat := n / 18446744073709551616 % 18446744073709551616
@[irreducible] def lo (n : Nat) : Nat := n % 18446744073709551616
theorem U.lt {n : Nat} (h : U n) : n < 18446744073709551616 := h
theorem hi_U (n : Nat) : U (hi n) := by unfold U hi; omega
theorem lo_U (n : Nat) : U (lo n) := by unfold U lo; omega
theorem num_lt {h l : Nat} (hh : U h) (hl : U l) : num h l < 340282366920938463463374607431768211456 := by unfold U at *; unfold num; omega
theorem hi_num {h l : Nat} (hh : U h) (hl : U l) : hi (num h l) = h := by unfold U at *; unfold num hi; omega
theorem lo_num {h l : Nat} (hl : U l) : lo (num h l) = l := by unfold U at *; unfold num lo; omega
theorem num_hl (n : Nat) : num (hi n) (lo n) = n % 340282366920938463463374607431768211456 := by unfold num hi lo; omega
theorem num_hl_of {n : Nat} (h : n < 340282366920938463463374607431768211456) : num (hi n) (lo n) = n := by rw [num_hl]; omega
theorem hi_mod (n : Nat) : hi (n % 340282366920938463463374607431768211456) = hi n := by unfold hi; omega
theorem lo_mod (n : Nat) : lo (n % 340282366920938463463374607431768211456) = lo n := by unfold lo; omega
theorem num_zero (l : Nat) : num 0 l = l := by unfold num; omega

/-! ### rows of 128 bits -/
def bv (f : Nat → Bool) : Array Value := Array.ofFn (n := 128) fun k => .bool (f k)
theorem bv_size (f : Nat → Bool) : (bv f).size = 128 := by simp [bv]
theorem bv_get (f : Nat → Bool) (i : Nat) (h : i < 128) : (bv f)[i]? = some (.bool (f i)) := by
  simp [bv, h]
def upd (f : Nat → Bool) (i : Nat) (b : Bool) : Nat → Bool := fun k => if k = i then b else f k
theorem bv_set (f : Nat → Bool) (i : Nat) (b : Bool) : (bv f).setIfInBounds i (.bool b) = bv (upd f i b) := by
  apply Array.ext_getElem?
  intro k
  simp only [bv, upd, Array.getElem?_setIfInBounds, Array.getElem?_ofFn, Array.size_ofFn]
  split
  · rename_i h; subst h
    simp
  · rename_i h
    split <;> simp [Ne.symm h]
theorem bv_congr {f g : Nat → Bool} (h : ∀ k, k < 128 → f k = g k) : bv f = bv g := by
  apply Array.ext_getElem?
  intro k
  by_cases hk : k < 128
  · rw [bv_get f k hk, bv_get g k hk, h k hk]
  · rw [Array.getElem?_eq_none (by rw [bv_size]; omega), Array.getElem?_eq_none (by rw [bv_size]; omega)]
attribute [irreducible] bv

/-! ### what a row of bits is worth -/
def val (f : Nat → Bool) : Nat → Nat
  | 0 => 0
  | n + 1 => val f n + (if f n then 2 ^ n else 0)
theorem val_lt (f : Nat → Bool) (n : Nat) : val f n < 2 ^ n := by
  induction n with
  | zero => simp [val]
  | succ n ih => unfold val; rw [Nat.pow_succ]; split <;> omega
theorem val_congr {f g : Nat → Bool} {n : Nat} (h : ∀ k, k < n → f k = g k) : val f n = val g n := by
  induction n with
  | zero => rfl
  | succ n ih => unfold val; rw [ih (fun k hk => h k (by omega)), h n (by omega)]
theorem val_testBit (m n : Nat) : val m.testBit n = m % 2 ^ n := by
  induction n with
  | zero => simp [val, Nat.mod_one]
  | succ n ih =>
    unfold val; rw [ih, Nat.mod_pow_succ, Nat.testBit_eq_decide_div_mod_eq]
    by_cases h : m / 2 ^ n % 2 = 1
    · simp [h]
    · have : m / 2 ^ n % 2 = 0 := by omega
      simp [this]
theorem val_split (f : Nat → Bool) (a b : Nat) : val f (a + b) = val f a + 2 ^ a * val (fun k => f (a + k)) b := by
  induction b with
  | zero => simp [val]
  | succ b ih =>
    show val f (a + b) + (if f (a + b) then 2 ^ (a + b) else 0) = val f a + 2 ^ a * (val (fun k => f (a + k)) b + (if f (a + b) then 2 ^ b else 0))
    rw [ih, Nat.mul_add, ← Nat.add_assoc]
    congr 1
    split <;> simp [Nat.pow_add]
theorem testBit_val (f : Nat → Bool) (n k : Nat) (h : k < n) : (val f n).testBit k = f k := by
  induction n with
  | zero => omega
  | succ n ih =>
    unfold val
    have hv := val_lt f n
    by_cases hk : k = n
    · subst hk
      cases hf : f k
      · simp [Nat.testBit_lt_two_pow hv]
      · rw [if_pos rfl, Nat.add_comm, Nat.testBit_two_pow_add_eq, Nat.testBit_lt_two_pow hv]; rfl
    · cases hf : f n
      · simp; exact ih (by omega)
      · rw [if_pos rfl, Nat.add_comm, Nat.testBit_two_pow_add_gt (by omega)]; exact ih (by omega)
theorem bv_val (f : Nat → Bool) : bv f = bv (val f 128).testBit := bv_congr fun k hk => (testBit_val f 128 k hk).symm

/-! ### the sum, bit by bit -/
def cr (f g : Nat → Bool) (c : Bool) : Nat → Bool
  | 0 => c
  | n + 1 => (f n && g n) || ((f n || g n) && cr f g c n)
def sm (f g : Nat → Bool) (c : Bool) (k : Nat) : Bool := (f k ^^ g k) ^^ cr f g c k
theorem sum_val (f g : Nat → Bool) (c : Bool) (n : Nat) : val (sm f g c) n + 2 ^ n * (cr f g c n).toNat = val f n + val g n + c.toNat := by
  induction n with
  | zero => simp [val, cr]
  | succ n ih =>
    have e : sm f g c n = ((f n ^^ g n) ^^ cr f g c n) := rfl
    show val (sm f g c) n + (if sm f g c n then 2 ^ n else 0) + 2 ^ (n + 1) * ((f n && g n) || ((f n || g n) && cr f g c n)).toNat = (val f n + (if f n then 2 ^ n else 0)) + (val g n + (if g n then 2 ^ n else 0)) + c.toNat
    rw [Nat.pow_succ, e]
    generalize cr f g c n = x at *
    generalize val (sm f g c) n = s at *
    cases f n <;> cases g n <;> cases x <;> simp at * <;> omega
theorem val_not (f : Nat → Bool) (n : Nat) : val (fun k => !f k) n + val f n + 1 = 2 ^ n := by
  induction n with
  | zero => simp [val]
  | succ n ih =>
    show val (fun k => !f k) n + (if (!f n) then 2 ^ n else 0) + (val f n + (if f n then 2 ^ n else 0)) + 1 = 2 ^ (n + 1)
    rw [Nat.pow_succ]
    generalize val (fun k => !f k) n = s at *
    cases f n <;> simp <;> omega

/-! ### the test of one bit, as the walk writes it -/
theorem bit_and (x : Nat) (h : U x) : bits .and .u64 (x : Int) 1 = ((x % 2 : Nat) : Int) := by
  have := bits_and_u64_nat x 1 h (by omega)
  rw [show ((1 : Nat) : Int) = 1 from rfl] at this
  rw [this, Nat.and_one_is_mod]
theorem bit_test (l i : Nat) (hl : U l) : (bits .and .u64 ((l : Int) / 2 ^ i) 1 == 1) = l.testBit i := by
  have e : ((l : Int) / 2 ^ i) = ((l / 2 ^ i : Nat) : Int) := by
    rw [Int.natCast_ediv, Int.natCast_pow]; rfl
  rw [e, bit_and _ (Nat.lt_of_le_of_lt (Nat.div_le_self _ _) hl), Nat.testBit_eq_decide_div_mod_eq]
  by_cases h : l / 2 ^ i % 2 = 1
  · rw [h]; rfl
  · have h0 : l / 2 ^ i % 2 = 0 := by omega
    rw [h0]; rfl
theorem or_pow (x i : Nat) (hx : x < 2 ^ i) (hi : i < 64) : bits .or .u64 (x : Int) (IntKind.u64.wrap (2 ^ i)) = ((x + 2 ^ i : Nat) : Int) := by
  have h2 : 2 ^ i < 18446744073709551616 := Nat.lt_of_lt_of_le (Nat.pow_lt_pow_right (by omega) hi) (by decide)
  have e : IntKind.u64.wrap (2 ^ i) = ((2 ^ i : Nat) : Int) := by
    rw [IntKind.wrap_u64]; have : (2 : Int) ^ i = ((2 ^ i : Nat) : Int) := by rw [Int.natCast_pow]; rfl
    rw [this]; omega
  rw [e, u64_or_nat _ _ (by omega) h2]
  have := Nat.two_pow_add_eq_or_of_lt hx 1
  rw [Nat.mul_one] at this
  rw [Nat.or_comm, ← this, Nat.add_comm]
end Go.Proofs.Ytlpbkdihjpceoaa
