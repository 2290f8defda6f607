/- AluAgrees: what the reader is told ahead is so. -/
import Derived.Test.YtblphdjfdjaegaaLAluAgrees
namespace Go.Proofs.Ytblphdjfdjaegaa.Sx
open Go

/-- A number's bounds, within which it stands. -/
theorem var_nat (e : Nat → Int) (i : Nat) : ∃ n : Nat, N.den e (.var i 0 18446744073709551615) = (n : Int) ∧ n < 18446744073709551616 := by
  have h : 0 ≤ max 0 (min 18446744073709551615 (e i)) ∧ max 0 (min 18446744073709551615 (e i)) ≤ 18446744073709551615 := by omega
  refine ⟨(max 0 (min 18446744073709551615 (e i))).toNat, ?_, ?_⟩
  · simp only [N.den]; omega
  · omega

theorem lowOf_nat (k : IntKind) (n : Nat) : lowOf k (n : Int) = n % span k := rfl
theorem wrap_u64 (x : Int) : wrapF .u64 x = x % 18446744073709551616 := by
  have := lowOf_eq .u64 x
  simp only [span] at this
  simpa [wrapF, ofLow, isSigned] using this
theorem add_u64 (x y : Int) : arF .add .u64 x y = (x + y) % 18446744073709551616 := wrap_u64 _
theorem sub_u64 (x y : Int) : arF .sub .u64 x y = (x - y) % 18446744073709551616 := wrap_u64 _
theorem mul_u64 (x y : Int) : arF .mul .u64 x y = (x * y) % 18446744073709551616 := wrap_u64 _
theorem and_u64 {m n : Nat} (hm : m < 18446744073709551616) (hn : n < 18446744073709551616) : arF .and .u64 m n = ((m &&& n : Nat) : Int) := by
  simp only [arF, lowOf_nat, span, Nat.mod_eq_of_lt hm, Nat.mod_eq_of_lt hn, ofLow, isSigned]
  rfl
theorem or_u64 {m n : Nat} (hm : m < 18446744073709551616) (hn : n < 18446744073709551616) : arF .or .u64 m n = ((m ||| n : Nat) : Int) := by
  simp only [arF, lowOf_nat, span, Nat.mod_eq_of_lt hm, Nat.mod_eq_of_lt hn, ofLow, isSigned]
  rfl
theorem xor_u64 {m n : Nat} (hm : m < 18446744073709551616) (hn : n < 18446744073709551616) : arF .xor .u64 m n = ((m ^^^ n : Nat) : Int) := by
  simp only [arF, lowOf_nat, span, Nat.mod_eq_of_lt hm, Nat.mod_eq_of_lt hn, ofLow, isSigned]
  rfl
theorem and_lt {m n : Nat} (hm : m < 18446744073709551616) : m &&& n < 18446744073709551616 := Nat.lt_of_le_of_lt Nat.and_le_left hm
theorem or_lt {m n : Nat} (hm : m < 18446744073709551616) (hn : n < 18446744073709551616) : m ||| n < 18446744073709551616 := Nat.or_lt_two_pow (n := 64) hm hn
theorem xor_lt {m n : Nat} (hm : m < 18446744073709551616) (hn : n < 18446744073709551616) : m ^^^ n < 18446744073709551616 := Nat.xor_lt_two_pow (n := 64) hm hn
theorem and_add_or (m n : Nat) : (m &&& n) + (m ||| n) = m + n := by
  induction m using Nat.strongRecOn generalizing n with
  | _ m ih =>
    rcases Nat.eq_zero_or_pos m with h0 | h0
    · subst h0; simp
    · have := ih (m / 2) (by omega) (n / 2)
      have a1 : (m &&& n) / 2 = m / 2 &&& n / 2 := Nat.and_div_two
      have a2 : (m ||| n) / 2 = m / 2 ||| n / 2 := Nat.or_div_two
      have b1 : (m &&& n) % 2 + (m ||| n) % 2 = m % 2 + n % 2 := by
        have c1 : (m &&& n) % 2 = (m % 2) &&& (n % 2) := by
          have := @Nat.and_mod_two_pow m n 1; simpa using this
        have c2 : (m ||| n) % 2 = (m % 2) ||| (n % 2) := by
          have := @Nat.or_mod_two_pow m n 1; simpa using this
        rw [c1, c2]
        rcases Nat.mod_two_eq_zero_or_one m with h | h <;> rcases Nat.mod_two_eq_zero_or_one n with h' | h' <;> rw [h, h'] <;> rfl
      omega
theorem and_63 (n : Nat) : n &&& 63 = n % 64 := Nat.and_two_pow_sub_one_eq_mod n 6

theorem fEq {e : Nat → Int} {a b : N} (h : a.den e = b.den e) : (true = true ↔ (N.eq a b).den e ≠ 0) := by
  simp only [N.den, true_iff, bI_ne, ieq_iff, h]
theorem fact0_ok (e : Nat → Int) : (true = true ↔ fact0.den e ≠ 0) := by
  refine fEq ?_
  obtain ⟨m, hm, hm'⟩ := var_nat e 0
  obtain ⟨n, hn, hn'⟩ := var_nat e 1
  simp only [N.den] at hm hn ⊢
  rw [hm, hn, add_u64, sub_u64]
  omega
theorem fact1_ok (e : Nat → Int) : (true = true ↔ fact1.den e ≠ 0) := by
  refine fEq ?_
  obtain ⟨m, hm, hm'⟩ := var_nat e 0
  obtain ⟨n, hn, hn'⟩ := var_nat e 1
  simp only [N.den] at hm hn ⊢
  rw [hm, hn, xor_u64 hm' hn', xor_u64 (xor_lt hm' hn') hn', Nat.xor_assoc, Nat.xor_self, Nat.xor_zero]
theorem fact2_ok (e : Nat → Int) : (true = true ↔ fact2.den e ≠ 0) := by
  refine fEq ?_
  obtain ⟨m, hm, hm'⟩ := var_nat e 0
  obtain ⟨n, hn, hn'⟩ := var_nat e 1
  simp only [N.den] at hm hn ⊢
  rw [hm, hn, and_u64 hm' hn', or_u64 hm' hn', add_u64, add_u64]
  have := and_add_or m n
  congr 1
  omega
theorem fact3_ok (e : Nat → Int) : (true = true ↔ fact3.den e ≠ 0) := by
  refine fEq ?_
  simp only [N.den, add_u64]
  omega
theorem shl_u64 (x : Int) {n : Nat} (hn : n < 64) : arF .shl .u64 x n = (x * (2 ^ n : Nat)) % 18446744073709551616 := by
  have : min n 64 = n := by omega
  simp only [arF, wrap_u64, Int.toNat_natCast, kindBits, this]
  rfl
theorem shr_nat (k : IntKind) (x : Int) {n : Nat} (hn : n < kindBits k) : arF .shr k x n = x / (2 ^ n : Nat) := by
  have : min n (kindBits k) = n := by omega
  simp only [arF, Int.toNat_natCast, this]
  exact Int.fdiv_eq_ediv_of_nonneg _ (Int.natCast_nonneg _)
theorem rem_63 (n : Nat) : arF .rem .u64 n 63 = ((n % 63 : Nat) : Int) := by
  simp only [arF]
  exact (Int.ofNat_tmod n 63).symm ▸ rfl
theorem and63_u64 {n : Nat} (hn : n < 18446744073709551616) : arF .and .u64 n 63 = ((n % 64 : Nat) : Int) := by
  have := and_u64 hn (show 63 < 18446744073709551616 by decide)
  rw [and_63] at this
  exact this
theorem add_nat {m n : Nat} (h : m + n < 18446744073709551616) : arF .add .u64 m n = ((m + n : Nat) : Int) := by
  rw [add_u64]; omega
theorem fact4_ok (e : Nat → Int) : (true = true ↔ fact4.den e ≠ 0) := by
  refine fEq ?_
  obtain ⟨m, hm, hm'⟩ := var_nat e 0
  obtain ⟨n, hn, hn'⟩ := var_nat e 2
  simp only [N.den] at hm hn ⊢
  have h1 : n % 63 % 64 = n % 63 := by omega
  have h2 : (n % 63 + 1) % 64 = n % 63 + 1 := by omega
  rw [hm, hn, rem_63, and63_u64 (by omega), show (1 : Int) = ((1 : Nat) : Int) from rfl, add_nat (by omega), and63_u64 (by omega), h1, h2,
    shl_u64 _ (show n % 63 < 64 by omega), shl_u64 _ (show 1 < 64 by omega), shl_u64 _ (show n % 63 + 1 < 64 by omega), show (2 : Nat) ^ (n % 63 + 1) = 2 ^ (n % 63) * 2 from Nat.pow_succ .., Nat.pow_one]
  generalize (2 ^ (n % 63) : Nat) = p
  rw [show ((p * 2 : Nat) : Int) = (p : Int) * 2 by simp, show ((2 : Nat) : Int) = 2 from rfl, ← Int.mul_assoc]
  generalize (m : Int) * (p : Int) = q
  omega
theorem shr_shr {x : Int} {a b : Nat} : x / ((2 ^ a : Nat) : Int) / ((2 ^ b : Nat) : Int) = x / ((2 ^ (a + b) : Nat) : Int) := by
  rw [Int.ediv_ediv_of_nonneg (Int.natCast_nonneg _), Nat.pow_add]; simp
theorem fact5_ok (e : Nat → Int) : (true = true ↔ fact5.den e ≠ 0) := by
  refine fEq ?_
  obtain ⟨m, hm, hm'⟩ := var_nat e 0
  obtain ⟨n, hn, hn'⟩ := var_nat e 2
  simp only [N.den] at hm hn ⊢
  have h1 : n % 63 % 64 = n % 63 := by omega
  have h2 : (n % 63 + 1) % 64 = n % 63 + 1 := by omega
  rw [hm, hn, rem_63, and63_u64 (by omega), show (1 : Int) = ((1 : Nat) : Int) from rfl, add_nat (by omega), and63_u64 (by omega), h1, h2,
    shr_nat .u64 _ (show n % 63 < 64 by omega), shr_nat .u64 _ (show 1 < 64 by omega), shr_nat .u64 _ (show n % 63 + 1 < 64 by omega), shr_shr]
theorem wrap_i64 {x : Int} (h : -9223372036854775808 ≤ x ∧ x ≤ 9223372036854775807) : wrapF .i64 x = x := ofLow_same .i64 h
theorem conv_i64 (x : Int) : -9223372036854775808 ≤ wrapF .i64 x ∧ wrapF .i64 x ≤ 9223372036854775807 := wrapF_in .i64 x
theorem ediv_in {x : Int} {n : Nat} (h : -9223372036854775808 ≤ x ∧ x ≤ 9223372036854775807) : -9223372036854775808 ≤ x / ((2 ^ n : Nat) : Int) ∧ x / ((2 ^ n : Nat) : Int) ≤ 9223372036854775807 := by
  have hp : (1 : Int) ≤ ((2 ^ n : Nat) : Int) := by
    have := Nat.one_le_two_pow (n := n); omega
  constructor
  · rcases (show x < 0 ∨ 0 ≤ x by omega) with h0 | h0
    · have : x ≤ x / ((2 ^ n : Nat) : Int) := by
        rw [Int.le_ediv_iff_mul_le (by omega)]
        obtain ⟨q, hq, hq0⟩ : ∃ q : Int, ((2 ^ n : Nat) : Int) = q + 1 ∧ 0 ≤ q := ⟨((2 ^ n : Nat) : Int) - 1, by omega, by omega⟩
        have := Int.mul_nonneg (show 0 ≤ -x by omega) hq0
        rw [Int.neg_mul] at this
        rw [hq, Int.mul_add, Int.mul_one]
        omega
      omega
    · have := Int.ediv_nonneg h0 (show (0:Int) ≤ ((2 ^ n : Nat) : Int) by omega)
      omega
  · rcases (show x < 0 ∨ 0 ≤ x by omega) with h0 | h0
    · have := Int.ediv_neg_of_neg_of_pos h0 (show (0:Int) < ((2 ^ n : Nat) : Int) by omega)
      omega
    · have := Int.ediv_le_self ((2 ^ n : Nat) : Int) h0
      omega
theorem fact6_ok (e : Nat → Int) : (true = true ↔ fact6.den e ≠ 0) := by
  refine fEq ?_
  obtain ⟨n, hn, hn'⟩ := var_nat e 2
  simp only [N.den] at hn ⊢
  have h1 : n % 63 % 64 = n % 63 := by omega
  have h2 : (n % 63 + 1) % 64 = n % 63 + 1 := by omega
  have hx := conv_i64 (max 0 (min 18446744073709551615 (e 0)))
  generalize wrapF .i64 (max 0 (min 18446744073709551615 (e 0))) = x at *
  rw [hn, rem_63, and63_u64 (by omega), show (1 : Int) = ((1 : Nat) : Int) from rfl, add_nat (by omega), and63_u64 (by omega), h1, h2,
    shr_nat .i64 _ (show n % 63 < 64 by omega), wrap_i64 (ediv_in hx), shr_nat .i64 _ (show 1 < 64 by omega), shr_nat .i64 _ (show n % 63 + 1 < 64 by omega), shr_shr]
theorem fact7_ok (e : Nat → Int) : (true = true ↔ fact7.den e ≠ 0) := by
  refine fEq ?_
  obtain ⟨n, hn, hn'⟩ := var_nat e 2
  simp only [N.den] at hn ⊢
  rw [hn, and63_u64 hn', and63_u64 (by omega), Nat.mod_mod]
theorem wrap_back {x : Int} (h : 0 ≤ x ∧ x ≤ 18446744073709551615) : wrapF .u64 (wrapF .i64 x) = x := by
  rw [wrapF_wrapF (k := .u64) (l := .i64) rfl]
  exact ofLow_same .u64 h
theorem fact8_ok (e : Nat → Int) : (true = true ↔ fact8.den e ≠ 0) := by
  refine fEq ?_
  simp only [N.den]
  rw [show (0 : Int) = ((0 : Nat) : Int) from rfl, shr_nat .i64 _ (show 0 < 64 by omega)]
  simp only [Nat.pow_zero, Int.natCast_one, Int.ediv_one]
  exact wrap_back (by omega)
theorem common_ok (e : Nat → Int) : Holds e common :=
  (((((((((show Holds e [] from fun _ _ h => by cases h).cons (fact8_ok e)).cons (fact7_ok e)).cons (fact6_ok e)).cons (fact5_ok e)).cons (fact4_ok e)).cons (fact3_ok e)).cons (fact2_ok e)).cons (fact1_ok e)).cons (fact0_ok e)
theorem xor_add_and (m n : Nat) : (m ^^^ n) + 2 * (m &&& n) = m + n := by
  induction m using Nat.strongRecOn generalizing n with
  | _ m ih =>
    rcases Nat.eq_zero_or_pos m with h0 | h0
    · subst h0; simp
    · have := ih (m / 2) (by omega) (n / 2)
      have a1 : (m &&& n) / 2 = m / 2 &&& n / 2 := Nat.and_div_two
      have a2 : (m ^^^ n) / 2 = m / 2 ^^^ n / 2 := Nat.xor_div_two
      have b1 : 2 * ((m &&& n) % 2) + (m ^^^ n) % 2 = m % 2 + n % 2 := by
        have c1 : (m &&& n) % 2 = (m % 2) &&& (n % 2) := by
          have := @Nat.and_mod_two_pow m n 1; simpa using this
        have c2 : (m ^^^ n) % 2 = (m % 2) ^^^ (n % 2) := by
          have := @Nat.xor_mod_two_pow m n 1; simpa using this
        rw [c1, c2]
        rcases Nat.mod_two_eq_zero_or_one m with h | h <;> rcases Nat.mod_two_eq_zero_or_one n with h' | h' <;> rw [h, h'] <;> rfl
      omega
theorem xor_low {k : Nat} (h : k < 9223372036854775808) : k ^^^ 9223372036854775808 = k + 9223372036854775808 := by
  have h1 := xor_add_and k 9223372036854775808
  have h2 : k &&& 9223372036854775808 = 0 := by
    apply Nat.eq_of_testBit_eq
    intro i
    rw [Nat.testBit_and, show 9223372036854775808 = 2 ^ 63 from rfl, Nat.testBit_two_pow, Nat.zero_testBit]
    by_cases hi : 63 = i
    · subst hi
      rw [Nat.testBit_lt_two_pow (show k < 2 ^ 63 from h), Bool.false_and]
    · simp [hi]
  omega
theorem xor_top {n : Nat} (h : n < 18446744073709551616) : n ^^^ 9223372036854775808 = (n + 9223372036854775808) % 18446744073709551616 := by
  rcases Nat.lt_or_ge n 9223372036854775808 with h0 | h0
  · rw [xor_low h0]; omega
  · obtain ⟨k, rfl⟩ : ∃ k, n = k + 9223372036854775808 := ⟨n - 9223372036854775808, by omega⟩
    rw [← xor_low (by omega), Nat.xor_assoc, Nat.xor_self, Nat.xor_zero, xor_low (by omega)]
    omega
theorem conv_i64_nat {n : Nat} (h : n < 18446744073709551616) : wrapF .i64 n = if n < 9223372036854775808 then (n : Int) else (n : Int) - 18446744073709551616 := by
  rw [wrapF_eq]
  simp only [IntKind.wrap, IntKind.signed, IntKind.bits, Bool.true_and, decide_eq_true_eq, show (2 : Int) ^ 64 = 18446744073709551616 from rfl, show (2 : Int) ^ (64 - 1) = 9223372036854775808 from rfl]
  rw [Int.emod_eq_of_lt (by omega) (by omega)]
  split <;> split <;> omega
theorem tf {a b : N} {e : Nat → Int} (h : a.den e = b.den e) : (true = true ↔ (N.eq a b).den e ≠ 0) := fEq h
theorem ff {a b : N} {e : Nat → Int} (h : a.den e ≠ b.den e) : (false = true ↔ (N.eq a b).den e ≠ 0) := by
  simp only [N.den, Bool.false_eq_true, false_iff, bI_ne, ieq_iff, ne_eq]; exact fun k => (h (by simpa using k)).elim
theorem tl {a b : N} {e : Nat → Int} (h : a.den e < b.den e) : (true = true ↔ (N.lt a b).den e ≠ 0) := by
  simp only [N.den, true_iff, bI_ne, ilt_iff]; exact h
theorem fl {a b : N} {e : Nat → Int} (h : ¬ a.den e < b.den e) : (false = true ↔ (N.lt a b).den e ≠ 0) := by
  simp only [N.den, Bool.false_eq_true, false_iff, bI_ne, ilt_iff, ne_eq]; exact fun k => h (by simpa using k)
/-- One of the cases holds. -/
theorem cases_ok (e : Nat → Int) : Holds e (case0 ++ common) ∨ Holds e (case1 ++ common) ∨ Holds e (case2 ++ common) ∨ Holds e (case3 ++ common) ∨ Holds e (case4 ++ common) := by
  obtain ⟨m, hm, hm'⟩ := var_nat e 0
  obtain ⟨n, hn, hn'⟩ := var_nat e 1
  have c0 : N.den e (.conv .i64 v0) = if m < 9223372036854775808 then (m : Int) else (m : Int) - 18446744073709551616 := by rw [← conv_i64_nat hm', ← hm]; rfl
  have c1 : N.den e (.conv .i64 v1) = if n < 9223372036854775808 then (n : Int) else (n : Int) - 18446744073709551616 := by rw [← conv_i64_nat hn', ← hn]; rfl
  have x0 : N.den e (.ar .xor .u64 v0 (.lit 9223372036854775808)) = (((m + 9223372036854775808) % 18446744073709551616 : Nat) : Int) := by
    rw [← xor_top hm', ← xor_u64 hm' (by decide), ← hm]; rfl
  have x1 : N.den e (.ar .xor .u64 v1 (.lit 9223372036854775808)) = (((n + 9223372036854775808) % 18446744073709551616 : Nat) : Int) := by
    rw [← xor_top hn', ← xor_u64 hn' (by decide), ← hn]; rfl
  by_cases h0 : m = n
  · refine .inl ?_
    simp only [case0, List.cons_append, List.nil_append]
    refine ((((((common_ok e).cons (fl ?_)).cons (fl ?_)).cons (fl ?_)).cons (fl ?_)).cons (fl ?_)).cons (tf ?_) <;> simp only [hm, hn, c0, c1, x0, x1] <;> omega
  · refine .inr ?_
    by_cases h1 : m < n
    · by_cases h2 : N.den e (.conv .i64 v0) < N.den e (.conv .i64 v1)
      · refine .inl ?_
        rw [c0, c1] at h2
        simp only [case1, List.cons_append, List.nil_append]
        refine ((((((common_ok e).cons (fl ?_)).cons (tl ?_)).cons (tl ?_)).cons (fl ?_)).cons (tl ?_)).cons (ff ?_) <;> simp only [hm, hn, c0, c1, x0, x1] <;> omega
      · refine .inr (.inl ?_)
        rw [c0, c1] at h2
        simp only [case2, List.cons_append, List.nil_append]
        refine ((((((common_ok e).cons (tl ?_)).cons (fl ?_)).cons (fl ?_)).cons (fl ?_)).cons (tl ?_)).cons (ff ?_) <;> simp only [hm, hn, c0, c1, x0, x1] <;> omega
    · by_cases h2 : N.den e (.conv .i64 v0) < N.den e (.conv .i64 v1)
      · refine .inr (.inr (.inl ?_))
        rw [c0, c1] at h2
        simp only [case3, List.cons_append, List.nil_append]
        refine ((((((common_ok e).cons (fl ?_)).cons (tl ?_)).cons (tl ?_)).cons (tl ?_)).cons (fl ?_)).cons (ff ?_) <;> simp only [hm, hn, c0, c1, x0, x1] <;> omega
      · refine .inr (.inr (.inr ?_))
        rw [c0, c1] at h2
        simp only [case4, List.cons_append, List.nil_append]
        refine ((((((common_ok e).cons (tl ?_)).cons (fl ?_)).cons (fl ?_)).cons (tl ?_)).cons (fl ?_)).cons (ff ?_) <;> simp only [hm, hn, c0, c1, x0, x1] <;> omega
end Go.Proofs.Ytblphdjfdjaegaa.Sx
