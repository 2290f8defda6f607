/- Plain arithmetic for AluDoes: words, shifts, quotients and products bit by bit. -/
import Derived.Laws.Bits64b
set_option linter.unusedVariables false
set_option linter.unusedSimpArgs false
namespace Go.Proofs.Ytgfhjldfhcoagaa
open Go

/-- A number of 64 bits, as signed. -/
def sg (a : Nat) : Int := if a < 9223372036854775808 then (a : Int) else (a : Int) - 18446744073709551616
/-- .. of 32 bits. -/
def sw (a : Nat) : Int := if a % 4294967296 < 2147483648 then ((a % 4294967296 : Nat) : Int) else ((a % 4294967296 : Nat) : Int) - 4294967296

theorem and_low (a : Nat) (ha : a < 18446744073709551616) : bits .and .u64 (a : Int) 4294967295 = ((a % 4294967296 : Nat) : Int) := by
  have h := bits_and_u64_nat a 4294967295 ha (by decide)
  rw [show a &&& 4294967295 = a % 4294967296 from Nat.and_two_pow_sub_one_eq_mod a 32] at h
  exact h
theorem and_top (a : Nat) (ha : a < 18446744073709551616) : bits .and .u64 (a : Int) 9223372036854775808 = ((if a < 9223372036854775808 then 0 else 9223372036854775808 : Nat) : Int) := by
  have h := bits_and_u64_nat a 9223372036854775808 ha (by decide)
  refine h.trans ?_
  congr 1
  rw [show (9223372036854775808 : Nat) = 2 ^ 63 from rfl]
  apply Nat.eq_of_testBit_eq
  intro i
  rw [Nat.testBit_and, Nat.testBit_two_pow]
  by_cases hc : a < 2 ^ 63
  · rw [if_pos hc, Nat.zero_testBit]
    by_cases h3 : 63 = i
    · subst h3
      rw [Nat.testBit_lt_two_pow hc]; rfl
    · simp [h3]
  · rw [if_neg hc, Nat.testBit_two_pow]
    by_cases h3 : 63 = i
    · subst h3
      rw [Nat.testBit_eq_decide_div_mod_eq, decide_eq_true (show a / 2 ^ 63 % 2 = 1 by omega)]; simp
    · simp [h3]
theorem or_high (a : Nat) (ha : a < 4294967296) : bits .or .u64 (a : Int) 18446744069414584320 = ((a + 18446744069414584320 : Nat) : Int) := by
  have h := bits_or_u64_nat a 18446744069414584320 (by omega) (by decide)
  refine h.trans ?_
  congr 1
  rw [Nat.or_comm, show (18446744069414584320 : Nat) = 2 ^ 32 * 4294967295 from rfl, ← Nat.two_pow_add_eq_or_of_lt (show a < 2 ^ 32 from ha), Nat.add_comm]
theorem or_top (x : Nat) (hx : x < 9223372036854775808) (y : Nat) (hy : y = 0 ∨ y = 9223372036854775808) : bits .or .u64 (x : Int) (y : Int) = ((x + y : Nat) : Int) := by
  have h := bits_or_u64_nat x y (by omega) (by omega)
  refine h.trans ?_
  congr 1
  rcases hy with rfl | rfl
  · simp
  · rw [Nat.or_comm, show (9223372036854775808 : Nat) = 2 ^ 63 * 1 from rfl, ← Nat.two_pow_add_eq_or_of_lt (show x < 2 ^ 63 from hx), Nat.add_comm]
/-- One step to the right, the sign coming in. -/
theorem sg_half (b : Nat) (hb : b < 18446744073709551616) : sg (b / 2 + (if b < 9223372036854775808 then 0 else 9223372036854775808)) = sg b / 2 := by
  unfold sg
  split <;> split <;> omega
theorem sg_bd (b : Nat) (hb : b < 18446744073709551616) : -9223372036854775808 ≤ sg b ∧ sg b ≤ 9223372036854775807 ∧ sg b % 18446744073709551616 = b := by
  unfold sg
  split <;> omega
theorem div_step (x : Int) (j : Nat) : x / ((2 ^ j : Nat) : Int) / 2 = x / ((2 ^ (j + 1) : Nat) : Int) := by
  rw [Int.ediv_ediv_of_nonneg (Int.natCast_nonneg _), Nat.pow_succ]
  simp
/-! Quotients bit by bit -/
theorem shift_next (a i : Nat) : a / 2 ^ i = 2 * (a / 2 ^ (i + 1)) + a / 2 ^ i % 2 := by
  rw [Nat.pow_succ, ← Nat.div_div_eq_div_mul]; omega
theorem cast_pow (i : Nat) : ((2 ^ i : Nat) : Int) = (2 : Int) ^ i := by simp
theorem bit_and (a i : Nat) (ha : a < 18446744073709551616) : bits .and .u64 ((a : Int) / 2 ^ i) 1 = ((a / 2 ^ i % 2 : Nat) : Int) := by
  have h := bits_and_u64_nat (a / 2 ^ i) 1 (Nat.lt_of_le_of_lt (Nat.div_le_self _ _) ha) (by decide)
  rw [Nat.and_one_is_mod, Int.natCast_ediv, cast_pow] at h
  exact h
theorem or_bit (x b : Nat) (hx : x % 2 = 0) (hl : x < 18446744073709551616) (hb : b < 2) : bits .or .u64 (x : Int) (b : Int) = ((x + b : Nat) : Int) := by
  have h := bits_or_u64_nat x b hl (by omega)
  refine h.trans ?_
  congr 1
  obtain ⟨k, rfl⟩ : ∃ k, x = 2 ^ 1 * k := ⟨x / 2, by omega⟩
  exact (Nat.two_pow_add_eq_or_of_lt (show b < 2 ^ 1 by omega) k).symm
theorem wrap_nat (x : Nat) : IntKind.u64.wrap (x : Int) = ((x % 18446744073709551616 : Nat) : Int) := by
  rw [IntKind.wrap_u64]; omega
theorem pow_lt64 {i : Nat} (h : i < 64) : 2 ^ i < 18446744073709551616 := Nat.pow_lt_pow_right (by decide) (show i < 64 from h)
/-- The quotient's next bit. -/
theorem or_quo (Q i : Nat) (hi : i < 64) (hl : Q * 2 ^ (i + 1) < 18446744073709551616) : bits .or .u64 ((Q : Int) * 2 ^ (i + 1)) (IntKind.u64.wrap ((2 : Int) ^ i)) = (((2 * Q + 1) * 2 ^ i : Nat) : Int) := by
  have e : IntKind.u64.wrap ((2 : Int) ^ i) = ((2 ^ i : Nat) : Int) := by
    rw [← cast_pow, wrap_nat, Nat.mod_eq_of_lt (pow_lt64 hi)]
  have h := bits_or_u64_nat (Q * 2 ^ (i + 1)) (2 ^ i) hl (pow_lt64 hi)
  rw [e, ← cast_pow, ← Int.natCast_mul]
  refine h.trans ?_
  congr 1
  have h2 : Q * 2 ^ (i + 1) ||| 2 ^ i = Q * 2 ^ (i + 1) + 2 ^ i := by
    rw [Nat.mul_comm Q]
    exact (Nat.two_pow_add_eq_or_of_lt (Nat.pow_lt_pow_right (by decide) (Nat.lt_succ_self i)) Q).symm
  rw [h2, Nat.pow_succ, Nat.add_mul, Nat.one_mul]
  congr 1
  rw [Nat.mul_comm (2 ^ i) 2, ← Nat.mul_assoc, Nat.mul_comm Q 2]
theorem quo_small {a y Q R i : Nat} (ha : a < 18446744073709551616) (h0 : 0 < y) (h : a / 2 ^ (i + 1) = Q * y + R) : Q * 2 ^ (i + 1) < 18446744073709551616 := by
  have h1 : Q ≤ a / 2 ^ (i + 1) := by
    rw [h]; exact Nat.le_trans (Nat.le_mul_of_pos_right Q h0) (Nat.le_add_right _ _)
  have := Nat.mul_le_mul_right (2 ^ (i + 1)) h1
  have := Nat.div_mul_le_self a (2 ^ (i + 1))
  omega
/-- What is left, with the next bit: the divisor was there .. -/
theorem left_yes {a y Q R i : Nat} (h : a / 2 ^ (i + 1) = Q * y + R) (hv : y ≤ 2 * R + a / 2 ^ i % 2) : a / 2 ^ i = (2 * Q + 1) * y + (2 * R + a / 2 ^ i % 2 - y) := by
  have := shift_next a i
  rw [Nat.add_mul, Nat.mul_assoc]
  omega
/-- .. or not. -/
theorem left_no {a y Q R i : Nat} (h : a / 2 ^ (i + 1) = Q * y + R) : a / 2 ^ i = (2 * Q) * y + (2 * R + a / 2 ^ i % 2) := by
  have := shift_next a i
  rw [Nat.mul_assoc]
  omega
theorem quo_at (Q i : Nat) : Q * 2 ^ (i + 1) = (2 * Q) * 2 ^ i := by
  rw [Nat.pow_succ, Nat.mul_comm (2 ^ i) 2, ← Nat.mul_assoc, Nat.mul_comm Q 2]

/-! Products bit by bit -/
theorem low_next (b k : Nat) : b % 2 ^ (k + 1) = b % 2 ^ k + 2 ^ k * (b / 2 ^ k % 2) := by
  rw [Nat.pow_succ, Nat.mod_mul]
theorem mul_bd {a b : Nat} (ha : a < 18446744073709551616) (hb : b < 18446744073709551616) : a * b < 340282366920938463463374607431768211456 :=
  Nat.lt_of_le_of_lt (Nat.mul_le_mul (Nat.le_of_lt_succ (Nat.lt_succ_of_lt ha)) (Nat.le_refl b)) (by
    have : a * b ≤ 18446744073709551615 * 18446744073709551615 := Nat.mul_le_mul (by omega) (by omega)
    have : 18446744073709551616 * b ≤ 18446744073709551616 * 18446744073709551615 := Nat.mul_le_mul (Nat.le_refl _) (by omega)
    omega)
/-- The bit is 1: what is added does not go round. -/
theorem prod_yes {a b k : Nat} (ha : a < 18446744073709551616) (hb : b < 18446744073709551616) (h : b / 2 ^ k % 2 = 1) :
    a * 2 ^ k % 340282366920938463463374607431768211456 = a * 2 ^ k ∧ a * (b % 2 ^ (k + 1)) = a * (b % 2 ^ k) + a * 2 ^ k ∧ a * (b % 2 ^ (k + 1)) < 340282366920938463463374607431768211456 := by
  have h1 : b % 2 ^ (k + 1) ≤ b := Nat.mod_le _ _
  have h2 := Nat.lt_of_le_of_lt (Nat.mul_le_mul (Nat.le_refl a) h1) (mul_bd ha hb)
  have h3 : a * (b % 2 ^ (k + 1)) = a * (b % 2 ^ k) + a * 2 ^ k := by
    rw [low_next, h, Nat.mul_one, Nat.mul_add]
  refine ⟨Nat.mod_eq_of_lt ?_, h3, h2⟩
  omega
theorem prod_no {a b k : Nat} (h : ¬ b / 2 ^ k % 2 = 1) : a * (b % 2 ^ (k + 1)) = a * (b % 2 ^ k) := by
  rw [low_next, show b / 2 ^ k % 2 = 0 by omega, Nat.mul_zero, Nat.add_zero]
theorem add_next (a k : Nat) : a * 2 ^ (k + 1) % 340282366920938463463374607431768211456 = 2 * (a * 2 ^ k % 340282366920938463463374607431768211456) % 340282366920938463463374607431768211456 := by
  rw [Nat.pow_succ, ← Nat.mul_assoc]; omega
theorem or_even (x y : Nat) (hx : x % 2 = 0) (hl : x < 18446744073709551616) (hy : y < 2) : bits .or .u64 (x : Int) (y : Int) = ((x + y : Nat) : Int) := or_bit x y hx hl hy
end Go.Proofs.Ytgfhjldfhcoagaa
