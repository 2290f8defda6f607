/- AluDoes: what is excused can not be: shifts by counts that are the same, signs, divisions by -1. -/
import Derived.Test.YtgfhjldfhcoagaaTAluDoes
set_option linter.unusedVariables false
set_option linter.unusedSimpArgs false
namespace Go.Proofs.Ytgfhjldfhcoagaa.Sx
open Go
set_option maxRecDepth 100000
theorem var_nat (i : Nat → Int) (j : Nat) : ∃ n : Nat, N.den i (.var j 0 18446744073709551615) = (n : Int) ∧ n < 18446744073709551616 := by
  have h : 0 ≤ max 0 (min 18446744073709551615 (i j)) ∧ max 0 (min 18446744073709551615 (i j)) ≤ 18446744073709551615 := by omega
  refine ⟨(max 0 (min 18446744073709551615 (i j))).toNat, ?_, ?_⟩
  · simp only [N.den]; omega
  · omega
theorem den_ar (i : Nat → Int) (f : BinOp) (k : IntKind) (a b : N) : (N.ar f k a b).den i = arF f k (a.den i) (b.den i) := rfl
theorem den_conv (i : Nat → Int) (k : IntKind) (a : N) : (N.conv k a).den i = wrapF k (a.den i) := rfl
theorem den_eq (i : Nat → Int) (a b : N) : (N.eq a b).den i = bI (ieq (a.den i) (b.den i)) := rfl
theorem den_lt (i : Nat → Int) (a b : N) : (N.lt a b).den i = bI (ilt (a.den i) (b.den i)) := rfl
theorem den_lit (i : Nat → Int) (z : Int) : (N.lit z).den i = z := rfl
theorem low64 (a : Nat) (ha : a < 18446744073709551616) : lowOf .u64 (a : Int) = a := Nat.mod_eq_of_lt ha
theorem and63 (b : Nat) (hb : b < 18446744073709551616) : arF .and .u64 b 63 = ((b % 64 : Nat) : Int) := by
  simp only [arF, ofLow, isSigned, low64 b hb]
  have : Nat.land b (lowOf .u64 63) = b % 64 := Nat.and_two_pow_sub_one_eq_mod b 6
  rw [this]; rfl
theorem and31 (b : Nat) (hb : b < 18446744073709551616) : arF .and .u64 b 31 = ((b % 32 : Nat) : Int) := by
  simp only [arF, ofLow, isSigned, low64 b hb]
  have : Nat.land b (lowOf .u64 31) = b % 32 := Nat.and_two_pow_sub_one_eq_mod b 5
  rw [this]; rfl
theorem rem64 (b : Nat) : arF .rem .u64 b 64 = ((b % 64 : Nat) : Int) := rfl
theorem rem32 (b : Nat) : arF .rem .u64 b 32 = ((b % 32 : Nat) : Int) := rfl
theorem shr63 (a : Nat) : arF .shr .u64 a 63 = ((a / 9223372036854775808 : Nat) : Int) := by
  simp only [arF]
  rw [show (Int.ofNat (2 ^ (min (63 : Int).toNat (kindBits .u64)))) = 9223372036854775808 from rfl, Int.fdiv_eq_ediv_of_nonneg _ (by decide)]
  omega
theorem xor_or_and : ∀ a b : Nat, (a ^^^ b) + (a &&& b) = a ||| b := by
  intro a
  induction a using Nat.strongRecOn with
  | ind a ih =>
    intro b
    by_cases h0 : a = 0
    · subst h0; simp
    · have h := ih (a / 2) (by omega) (b / 2)
      rw [← Nat.xor_div_two, ← Nat.and_div_two, ← Nat.or_div_two] at h
      have h1 := Nat.xor_mod_two_eq_one (a := a) (b := b)
      have h2 := Nat.and_mod_two_eq_one (a := a) (b := b)
      have h3 := Nat.or_mod_two_eq_one (a := a) (b := b)
      omega
theorem xor_sub (a b : Nat) (ha : a < 18446744073709551616) (hb : b < 18446744073709551616) : arF .xor .u64 a b = arF .sub .u64 (arF .or .u64 a b) (arF .and .u64 a b) := by
  simp only [arF, ofLow, isSigned, low64 a ha, low64 b hb]
  have h := xor_or_and a b
  have e : Int.ofNat (Nat.lor a b) - Int.ofNat (Nat.land a b) = ((a ^^^ b : Nat) : Int) := by
    show ((a ||| b : Nat) : Int) - ((a &&& b : Nat) : Int) = _
    omega
  rw [e, wrap_u64]
  have : a ^^^ b < 2 ^ 64 := Nat.xor_lt_two_pow ha hb
  show ((a ^^^ b : Nat) : Int) = _
  omega
theorem xor_top (a : Nat) (ha : a < 18446744073709551616) : arF .xor .u64 a 9223372036854775808 = (if a < 9223372036854775808 then ((a + 9223372036854775808 : Nat) : Int) else ((a - 9223372036854775808 : Nat) : Int)) := by
  have h := xor_sub a 9223372036854775808 ha (by decide)
  have o : a ||| 9223372036854775808 = if a < 9223372036854775808 then a + 9223372036854775808 else a := by
    split
    · rename_i hc
      rw [Nat.or_comm, show (9223372036854775808 : Nat) = 2 ^ 63 * 1 from rfl, ← Nat.two_pow_add_eq_or_of_lt (show a < 2 ^ 63 from hc), Nat.add_comm]
    · have e : a = 2 ^ 63 * 1 + (a - 9223372036854775808) := by omega
      have hl : a - 9223372036854775808 < 2 ^ 63 := by omega
      have h1 := Nat.two_pow_add_eq_or_of_lt hl 1
      have h2 : a = 2 ^ 63 * 1 ||| (a - 9223372036854775808) := by omega
      generalize a - 9223372036854775808 = r at *
      rw [h2, Nat.or_assoc, Nat.or_comm r, ← Nat.or_assoc, show (2 ^ 63 * 1 ||| 9223372036854775808 : Nat) = 2 ^ 63 * 1 from rfl]
  have x := xor_or_and a 9223372036854775808
  have n : a &&& 9223372036854775808 = if a < 9223372036854775808 then 0 else 9223372036854775808 := by
    have t := and_top a ha
    have t2 := bits_and_u64_nat a 9223372036854775808 ha (by decide)
    have : ((a &&& 9223372036854775808 : Nat) : Int) = ((if a < 9223372036854775808 then 0 else 9223372036854775808 : Nat) : Int) := t2.symm.trans t
    exact Int.ofNat.inj this
  simp only [arF, ofLow, isSigned, low64 a ha]
  show ((a ^^^ 9223372036854775808 : Nat) : Int) = _
  rw [o, n] at x
  split <;> rename_i hc <;> simp only [hc, if_true, if_false] at x <;> omega
theorem conv_all (b : Nat) (hb : b < 18446744073709551616) (h : (b : Int) = 18446744073709551615) : sg b = -1 := by unfold sg; split <;> omega
theorem div_neg (a : Nat) (ha : a < 18446744073709551616) : arF .sub .u64 0 a = wrapF .u64 (arF .quo .i64 (sg a) (-1)) := by
  simp only [arF, wrap_u64]
  rw [show wrapF .i64 ((sg a).tdiv (-1)) % 18446744073709551616 = (sg a).tdiv (-1) % 18446744073709551616 from wrapF_mod .i64 _, Int.tdiv_neg, Int.tdiv_one]
  have := (sg_bd a ha).2.2
  omega
theorem rem_neg (z : Int) : arF .rem .i64 z (-1) = 0 := by
  simp only [arF]; rw [Int.tmod_neg, Int.tmod_one]
theorem divw_neg (a : Nat) (ha : a < 18446744073709551616) : wrapF .u64 (wrapF .i32 (arF .sub .u64 0 a)) = wrapF .u64 (wrapF .i32 (arF .quo .i64 (sw a) (-1))) := by
  congr 1
  refine wrapF_congr ?_
  simp only [arF, wrap_u64, span]
  rw [Int.tdiv_neg, Int.tdiv_one, i64_of (by have := sw_bd a; omega)]
  unfold sw
  split <;> omega
theorem shr_same (k : IntKind) (x : Int) (b : Nat) : True := trivial
theorem i32_shr (a b : Nat) : wrapF .i32 (arF .shr .i64 (sw a) (b : Int)) = arF .shr .i64 (sw a) (b : Int) := by
  have h := sw_bd a
  simp only [arF]
  have hp : 0 < (2 ^ min (b : Int).toNat (kindBits .i64) : Nat) := Nat.two_pow_pos _
  generalize (2 ^ min (b : Int).toNat (kindBits .i64) : Nat) = p at hp
  rw [Int.fdiv_eq_ediv_of_nonneg _ (by exact Int.natCast_nonneg p)]
  have e1 : -2147483648 ≤ sw a / (p : Int) := by
    rw [Int.le_ediv_iff_mul_le (by omega)]
    have : (2147483648 : Int) * 1 ≤ 2147483648 * p := Int.mul_le_mul_of_nonneg_left (by omega) (by decide)
    omega
  have e2 : sw a / (p : Int) ≤ 2147483647 := by
    refine Int.le_of_lt_add_one (Int.ediv_lt_of_lt_mul (by omega) ?_)
    have : (2147483648 : Int) * 1 ≤ 2147483648 * p := Int.mul_le_mul_of_nonneg_left (by omega) (by decide)
    omega
  show wrapF .i32 (sw a / (p : Int)) = _
  rw [wrapF_eq]; simp only [IntKind.wrap, IntKind.signed, IntKind.bits, Bool.true_and, decide_eq_true_eq, show (2 : Int) ^ 32 = 4294967296 from rfl, show (2 : Int) ^ (32 - 1) = 2147483648 from rfl]
  show _ = sw a / (p : Int)
  split <;> omega
end Go.Proofs.Ytgfhjldfhcoagaa.Sx
