/- AmoMakes: what is excused can not be. -/
import Derived.Test.YtaebmaahbkgcoaaGreatUAmoMakesP0
import Derived.Test.YtaebmaahbkgcoaaGreatUAmoMakesP1
import Derived.Test.YtaebmaahbkgcoaaGreatUAmoMakesP2
import Derived.Test.YtaebmaahbkgcoaaGreatUAmoMakesP3
import Derived.Test.YtaebmaahbkgcoaaGreatUAmoMakesP4
import Derived.Test.YtaebmaahbkgcoaaGreatUAmoMakesP5
namespace Go.Proofs.YtaebmaahbkgcoaaGreat.Sx
open Go
set_option maxRecDepth 100000
theorem w_u64 (x : Int) : wrapF .u64 x = x % 18446744073709551616 := by
  have := lowOf_eq .u64 x
  simp only [span] at this
  simpa [wrapF, ofLow, isSigned] using this
theorem w_u32 (x : Int) : wrapF .u32 x = x % 4294967296 := by
  have := lowOf_eq .u32 x
  simp only [span] at this
  simpa [wrapF, ofLow, isSigned] using this
theorem w_i64 (x : Int) : wrapF .i64 x % 18446744073709551616 = x % 18446744073709551616 ∧ -9223372036854775808 ≤ wrapF .i64 x ∧ wrapF .i64 x ≤ 9223372036854775807 := by
  have h1 := wrapF_mod .i64 x
  have h2 := wrapF_in .i64 x
  exact ⟨h1, h2.1, h2.2⟩
theorem w_i32 (x : Int) : wrapF .i32 x % 4294967296 = x % 4294967296 ∧ -2147483648 ≤ wrapF .i32 x ∧ wrapF .i32 x ≤ 2147483647 := by
  have h1 := wrapF_mod .i32 x
  have h2 := wrapF_in .i32 x
  exact ⟨h1, h2.1, h2.2⟩
theorem i64_of (x : Int) (h : -9223372036854775808 ≤ x ∧ x ≤ 9223372036854775807) : wrapF .i64 x = x := by
  have := w_i64 x; omega
theorem i32_of (x : Int) (h : -2147483648 ≤ x ∧ x ≤ 2147483647) : wrapF .i32 x = x := by
  have := w_i32 x; omega
theorem mulmod {m x b B : Int} (h : b % m = B % m) : (x * b) % m = (x * B) % m := by
  rw [Int.mul_emod, h, ← Int.mul_emod]
theorem mulmod2 {m x b B : Int} (h : b % m = B % m) : (x % m * b) % m = (x * B) % m := by
  rw [Int.mul_emod, Int.emod_emod, h, ← Int.mul_emod]
theorem and_low (x : Int) (h0 : 0 ≤ x) (h1 : x ≤ 18446744073709551615) : arF .and .u64 x 4294967295 = x % 4294967296 := by
  obtain ⟨n, rfl⟩ : ∃ n : Nat, x = (n : Int) := ⟨x.toNat, by omega⟩
  simp only [arF, ofLow, isSigned]
  have : Nat.land (lowOf .u64 n) (lowOf .u64 4294967295) = n % 18446744073709551616 % 4294967296 := Nat.and_two_pow_sub_one_eq_mod (n % 18446744073709551616) 32
  rw [this]
  have h : n % 18446744073709551616 % 4294967296 = n % 4294967296 := by omega
  rw [h]; rfl
theorem or_hi (x : Int) (h0 : 0 ≤ x) (h1 : x < 4294967296) : arF .or .u64 x 18446744069414584320 = x + 18446744069414584320 := by
  obtain ⟨n, rfl⟩ : ∃ n : Nat, x = (n : Int) := ⟨x.toNat, by omega⟩
  simp only [arF, ofLow, isSigned]
  have e1 : lowOf .u64 (n : Int) = n := Nat.mod_eq_of_lt (show n < 18446744073709551616 by omega)
  have e2 : lowOf .u64 18446744069414584320 = 2 ^ 32 * 4294967295 := rfl
  rw [e1, e2]
  have := Nat.two_pow_add_eq_or_of_lt (show n < 2 ^ 32 by omega) 4294967295
  have h2 : Nat.lor n (2 ^ 32 * 4294967295) = 2 ^ 32 * 4294967295 ||| n := Nat.or_comm ..
  rw [h2, ← this]
  simp; omega
theorem xor_low (n : Nat) (h : n < 9223372036854775808) : n ^^^ 9223372036854775808 = 9223372036854775808 + n := by
  have p : (9223372036854775808 : Nat) = 2 ^ 63 := rfl
  apply Nat.eq_of_testBit_eq
  intro j
  rw [Nat.testBit_xor, p, Nat.testBit_two_pow]
  rcases Nat.lt_trichotomy j 63 with hj | hj | hj
  · rw [Nat.testBit_two_pow_add_gt hj, decide_eq_false (by omega)]; simp
  · subst hj
    rw [Nat.testBit_two_pow_add_eq]; simp
  · have h1 : n < 2 ^ j := Nat.lt_of_lt_of_le h (by rw [p]; exact Nat.pow_le_pow_right (by decide) (by omega))
    have h2 : 2 ^ 63 + n < 2 ^ j := Nat.lt_of_lt_of_le (show 2 ^ 63 + n < 2 ^ 64 by omega) (Nat.pow_le_pow_right (by decide) (by omega))
    rw [Nat.testBit_lt_two_pow h1, Nat.testBit_lt_two_pow h2, decide_eq_false (by omega)]; rfl
theorem xor_top (x : Int) (h0 : 0 ≤ x) (h1 : x ≤ 18446744073709551615) : arF .xor .u64 x 9223372036854775808 = (x + 9223372036854775808) % 18446744073709551616 := by
  obtain ⟨n, rfl⟩ : ∃ n : Nat, x = (n : Int) := ⟨x.toNat, by omega⟩
  simp only [arF, ofLow, isSigned]
  have e1 : lowOf .u64 (n : Int) = n := Nat.mod_eq_of_lt (show n < 18446744073709551616 by omega)
  have e2 : lowOf .u64 9223372036854775808 = 9223372036854775808 := rfl
  rw [e1, e2]
  have key : n ^^^ 9223372036854775808 = (n + 9223372036854775808) % 18446744073709551616 := by
    by_cases h : n < 9223372036854775808
    · rw [xor_low n h]; omega
    · have hy := xor_low (n - 9223372036854775808) (by omega)
      have hn : n = (n - 9223372036854775808) ^^^ 9223372036854775808 := by rw [hy]; omega
      rw [hn, Nat.xor_assoc, Nat.xor_self, Nat.xor_zero, hy]
      omega
  show (Int.ofNat (n ^^^ 9223372036854775808)) = _
  rw [key]
  simp
theorem aAdd (k : IntKind) (x y : Int) : arF .add k x y = wrapF k (x + y) := rfl
theorem aSub (k : IntKind) (x y : Int) : arF .sub k x y = wrapF k (x - y) := rfl
theorem aRem (k : IntKind) (x y : Int) : arF .rem k x y = x.tmod y := rfl
theorem exc0_no : ∀ q ∈ exc0, ∀ i, ¬ Holds i q :=
  fun q hq => by cases hq
theorem exc1_0 (i : Nat → Int) (hh : Holds i [((.eq (.conv .u64 (.conv .i32 (.var 1 0 18446744073709551615))) (.ar .or .u64 (.ar .rem .u64 (.var 1 0 18446744073709551615) (.lit 4294967296)) (.lit 18446744069414584320))), false), ((.lt (.ar .rem .u64 (.var 1 0 18446744073709551615) (.lit 4294967296)) (.lit 2147483648)), false), ((.lt (.var 0 0 255) (.lit 68)), true), ((.lt (.var 0 0 255) (.lit 69)), true), ((.lt (.var 0 0 255) (.lit 72)), true), ((.lt (.var 0 0 255) (.lit 78)), true), ((.lt (.var 0 0 255) (.lit 89)), true), ((.lt (.var 0 0 255) (.lit 67)), false)]) : False := by
  have h0 := hh _ _ (.head _)
  have h1 := hh _ _ (.tail _ (.head _))
  have h2 := hh _ _ (.tail _ (.tail _ (.head _)))
  have h3 := hh _ _ (.tail _ (.tail _ (.tail _ (.head _))))
  have h4 := hh _ _ (.tail _ (.tail _ (.tail _ (.tail _ (.head _)))))
  have h5 := hh _ _ (.tail _ (.tail _ (.tail _ (.tail _ (.tail _ (.head _))))))
  have h6 := hh _ _ (.tail _ (.tail _ (.tail _ (.tail _ (.tail _ (.tail _ (.head _)))))))
  have h7 := hh _ _ (.tail _ (.tail _ (.tail _ (.tail _ (.tail _ (.tail _ (.tail _ (.head _))))))))
  clear hh
  simp only [N.den, aRem, true_iff, Bool.false_eq_true, false_iff, bI_ne, ieq_iff, ilt_iff] at h0 h1 h2 h3 h4 h5 h6 h7
  generalize hA0 : max 0 (min 18446744073709551615 (i 1)) = a at *
  generalize hB0 : max 0 (min 18446744073709551615 (i 2)) = b at *
  generalize max 0 (min 255 (i 0)) = c at *
  have ha : 0 ≤ a ∧ a ≤ 18446744073709551615 := by omega
  have hb : 0 ≤ b ∧ b ≤ 18446744073709551615 := by omega
  clear hA0 hB0
  have ta : a.tmod 4294967296 = a % 4294967296 := Int.tmod_eq_emod_of_nonneg ha.1
  have tb : b.tmod 4294967296 = b % 4294967296 := Int.tmod_eq_emod_of_nonneg hb.1
  have oa := or_hi (a % 4294967296) (by omega) (by omega)
  have ob := or_hi (b % 4294967296) (by omega) (by omega)
  have xa := xor_top (a % 4294967296) (by omega) (by omega)
  have xb := xor_top (b % 4294967296) (by omega) (by omega)
  have xa2 := xor_top (a % 4294967296 + 18446744069414584320) (by omega) (by omega)
  have xb2 := xor_top (b % 4294967296 + 18446744069414584320) (by omega) (by omega)
  have xa3 := xor_top a ha.1 ha.2
  have xb3 := xor_top b hb.1 hb.2
  have wa := w_i32 a
  have wb := w_i32 b
  have va := w_i64 a
  have vb := w_i64 b
  simp only [ta, oa, w_u64] at h0 h1 h2 h3 h4 h5 h6 h7
  try simp (disch := omega) only [Int.tmod_eq_emod_of_nonneg] at h0 h1 h2 h3 h4 h5 h6 h7
  omega
theorem exc1_1 (i : Nat → Int) (hh : Holds i [((.eq (.conv .u64 (.conv .i32 (.var 1 0 18446744073709551615))) (.ar .rem .u64 (.var 1 0 18446744073709551615) (.lit 4294967296))), false), ((.lt (.ar .rem .u64 (.var 1 0 18446744073709551615) (.lit 4294967296)) (.lit 2147483648)), true), ((.lt (.var 0 0 255) (.lit 68)), true), ((.lt (.var 0 0 255) (.lit 69)), true), ((.lt (.var 0 0 255) (.lit 72)), true), ((.lt (.var 0 0 255) (.lit 78)), true), ((.lt (.var 0 0 255) (.lit 89)), true), ((.lt (.var 0 0 255) (.lit 67)), false)]) : False := by
  have h0 := hh _ _ (.head _)
  have h1 := hh _ _ (.tail _ (.head _))
  have h2 := hh _ _ (.tail _ (.tail _ (.head _)))
  have h3 := hh _ _ (.tail _ (.tail _ (.tail _ (.head _))))
  have h4 := hh _ _ (.tail _ (.tail _ (.tail _ (.tail _ (.head _)))))
  have h5 := hh _ _ (.tail _ (.tail _ (.tail _ (.tail _ (.tail _ (.head _))))))
  have h6 := hh _ _ (.tail _ (.tail _ (.tail _ (.tail _ (.tail _ (.tail _ (.head _)))))))
  have h7 := hh _ _ (.tail _ (.tail _ (.tail _ (.tail _ (.tail _ (.tail _ (.tail _ (.head _))))))))
  clear hh
  simp only [N.den, aRem, true_iff, Bool.false_eq_true, false_iff, bI_ne, ieq_iff, ilt_iff] at h0 h1 h2 h3 h4 h5 h6 h7
  generalize hA0 : max 0 (min 18446744073709551615 (i 1)) = a at *
  generalize hB0 : max 0 (min 18446744073709551615 (i 2)) = b at *
  generalize max 0 (min 255 (i 0)) = c at *
  have ha : 0 ≤ a ∧ a ≤ 18446744073709551615 := by omega
  have hb : 0 ≤ b ∧ b ≤ 18446744073709551615 := by omega
  clear hA0 hB0
  have ta : a.tmod 4294967296 = a % 4294967296 := Int.tmod_eq_emod_of_nonneg ha.1
  have tb : b.tmod 4294967296 = b % 4294967296 := Int.tmod_eq_emod_of_nonneg hb.1
  have oa := or_hi (a % 4294967296) (by omega) (by omega)
  have ob := or_hi (b % 4294967296) (by omega) (by omega)
  have xa := xor_top (a % 4294967296) (by omega) (by omega)
  have xb := xor_top (b % 4294967296) (by omega) (by omega)
  have xa2 := xor_top (a % 4294967296 + 18446744069414584320) (by omega) (by omega)
  have xb2 := xor_top (b % 4294967296 + 18446744069414584320) (by omega) (by omega)
  have xa3 := xor_top a ha.1 ha.2
  have xb3 := xor_top b hb.1 hb.2
  have wa := w_i32 a
  have wb := w_i32 b
  have va := w_i64 a
  have vb := w_i64 b
  simp only [ta, w_u64] at h0 h1 h2 h3 h4 h5 h6 h7
  try simp (disch := omega) only [Int.tmod_eq_emod_of_nonneg] at h0 h1 h2 h3 h4 h5 h6 h7
  omega
theorem exc1_no : ∀ q ∈ exc1, ∀ i, ¬ Holds i q :=
  List.forall_mem_cons.2 ⟨exc1_0, List.forall_mem_cons.2 ⟨exc1_1, (fun p h => by cases h)⟩⟩
theorem exc2_0 (i : Nat → Int) (hh : Holds i [((.eq (.conv .u64 (.conv .i32 (.var 1 0 18446744073709551615))) (.ar .or .u64 (.ar .rem .u64 (.var 1 0 18446744073709551615) (.lit 4294967296)) (.lit 18446744069414584320))), false), ((.lt (.ar .rem .u64 (.var 1 0 18446744073709551615) (.lit 4294967296)) (.lit 2147483648)), false), ((.lt (.var 0 0 255) (.lit 68)), false), ((.lt (.var 0 0 255) (.lit 69)), true), ((.lt (.var 0 0 255) (.lit 72)), true), ((.lt (.var 0 0 255) (.lit 78)), true), ((.lt (.var 0 0 255) (.lit 89)), true), ((.lt (.var 0 0 255) (.lit 67)), false)]) : False := by
  have h0 := hh _ _ (.head _)
  have h1 := hh _ _ (.tail _ (.head _))
  have h2 := hh _ _ (.tail _ (.tail _ (.head _)))
  have h3 := hh _ _ (.tail _ (.tail _ (.tail _ (.head _))))
  have h4 := hh _ _ (.tail _ (.tail _ (.tail _ (.tail _ (.head _)))))
  have h5 := hh _ _ (.tail _ (.tail _ (.tail _ (.tail _ (.tail _ (.head _))))))
  have h6 := hh _ _ (.tail _ (.tail _ (.tail _ (.tail _ (.tail _ (.tail _ (.head _)))))))
  have h7 := hh _ _ (.tail _ (.tail _ (.tail _ (.tail _ (.tail _ (.tail _ (.tail _ (.head _))))))))
  clear hh
  simp only [N.den, aRem, true_iff, Bool.false_eq_true, false_iff, bI_ne, ieq_iff, ilt_iff] at h0 h1 h2 h3 h4 h5 h6 h7
  generalize hA0 : max 0 (min 18446744073709551615 (i 1)) = a at *
  generalize hB0 : max 0 (min 18446744073709551615 (i 2)) = b at *
  generalize max 0 (min 255 (i 0)) = c at *
  have ha : 0 ≤ a ∧ a ≤ 18446744073709551615 := by omega
  have hb : 0 ≤ b ∧ b ≤ 18446744073709551615 := by omega
  clear hA0 hB0
  have ta : a.tmod 4294967296 = a % 4294967296 := Int.tmod_eq_emod_of_nonneg ha.1
  have tb : b.tmod 4294967296 = b % 4294967296 := Int.tmod_eq_emod_of_nonneg hb.1
  have oa := or_hi (a % 4294967296) (by omega) (by omega)
  have ob := or_hi (b % 4294967296) (by omega) (by omega)
  have xa := xor_top (a % 4294967296) (by omega) (by omega)
  have xb := xor_top (b % 4294967296) (by omega) (by omega)
  have xa2 := xor_top (a % 4294967296 + 18446744069414584320) (by omega) (by omega)
  have xb2 := xor_top (b % 4294967296 + 18446744069414584320) (by omega) (by omega)
  have xa3 := xor_top a ha.1 ha.2
  have xb3 := xor_top b hb.1 hb.2
  have wa := w_i32 a
  have wb := w_i32 b
  have va := w_i64 a
  have vb := w_i64 b
  simp only [ta, oa, w_u64] at h0 h1 h2 h3 h4 h5 h6 h7
  try simp (disch := omega) only [Int.tmod_eq_emod_of_nonneg] at h0 h1 h2 h3 h4 h5 h6 h7
  omega
theorem exc2_1 (i : Nat → Int) (hh : Holds i [((.eq (.conv .u64 (.conv .i32 (.var 1 0 18446744073709551615))) (.ar .rem .u64 (.var 1 0 18446744073709551615) (.lit 4294967296))), false), ((.lt (.ar .rem .u64 (.var 1 0 18446744073709551615) (.lit 4294967296)) (.lit 2147483648)), true), ((.lt (.var 0 0 255) (.lit 68)), false), ((.lt (.var 0 0 255) (.lit 69)), true), ((.lt (.var 0 0 255) (.lit 72)), true), ((.lt (.var 0 0 255) (.lit 78)), true), ((.lt (.var 0 0 255) (.lit 89)), true), ((.lt (.var 0 0 255) (.lit 67)), false)]) : False := by
  have h0 := hh _ _ (.head _)
  have h1 := hh _ _ (.tail _ (.head _))
  have h2 := hh _ _ (.tail _ (.tail _ (.head _)))
  have h3 := hh _ _ (.tail _ (.tail _ (.tail _ (.head _))))
  have h4 := hh _ _ (.tail _ (.tail _ (.tail _ (.tail _ (.head _)))))
  have h5 := hh _ _ (.tail _ (.tail _ (.tail _ (.tail _ (.tail _ (.head _))))))
  have h6 := hh _ _ (.tail _ (.tail _ (.tail _ (.tail _ (.tail _ (.tail _ (.head _)))))))
  have h7 := hh _ _ (.tail _ (.tail _ (.tail _ (.tail _ (.tail _ (.tail _ (.tail _ (.head _))))))))
  clear hh
  simp only [N.den, aRem, true_iff, Bool.false_eq_true, false_iff, bI_ne, ieq_iff, ilt_iff] at h0 h1 h2 h3 h4 h5 h6 h7
  generalize hA0 : max 0 (min 18446744073709551615 (i 1)) = a at *
  generalize hB0 : max 0 (min 18446744073709551615 (i 2)) = b at *
  generalize max 0 (min 255 (i 0)) = c at *
  have ha : 0 ≤ a ∧ a ≤ 18446744073709551615 := by omega
  have hb : 0 ≤ b ∧ b ≤ 18446744073709551615 := by omega
  clear hA0 hB0
  have ta : a.tmod 4294967296 = a % 4294967296 := Int.tmod_eq_emod_of_nonneg ha.1
  have tb : b.tmod 4294967296 = b % 4294967296 := Int.tmod_eq_emod_of_nonneg hb.1
  have oa := or_hi (a % 4294967296) (by omega) (by omega)
  have ob := or_hi (b % 4294967296) (by omega) (by omega)
  have xa := xor_top (a % 4294967296) (by omega) (by omega)
  have xb := xor_top (b % 4294967296) (by omega) (by omega)
  have xa2 := xor_top (a % 4294967296 + 18446744069414584320) (by omega) (by omega)
  have xb2 := xor_top (b % 4294967296 + 18446744069414584320) (by omega) (by omega)
  have xa3 := xor_top a ha.1 ha.2
  have xb3 := xor_top b hb.1 hb.2
  have wa := w_i32 a
  have wb := w_i32 b
  have va := w_i64 a
  have vb := w_i64 b
  simp only [ta, w_u64] at h0 h1 h2 h3 h4 h5 h6 h7
  try simp (disch := omega) only [Int.tmod_eq_emod_of_nonneg] at h0 h1 h2 h3 h4 h5 h6 h7
  omega
theorem exc2_no : ∀ q ∈ exc2, ∀ i, ¬ Holds i q :=
  List.forall_mem_cons.2 ⟨exc2_0, List.forall_mem_cons.2 ⟨exc2_1, (fun p h => by cases h)⟩⟩
theorem exc3_0 (i : Nat → Int) (hh : Holds i [((.eq (.conv .u64 (.conv .i32 (.var 1 0 18446744073709551615))) (.ar .or .u64 (.ar .rem .u64 (.var 1 0 18446744073709551615) (.lit 4294967296)) (.lit 18446744069414584320))), false), ((.lt (.ar .rem .u64 (.var 2 0 18446744073709551615) (.lit 4294967296)) (.lit 2147483648)), false), ((.lt (.ar .rem .u64 (.var 1 0 18446744073709551615) (.lit 4294967296)) (.lit 2147483648)), false), ((.lt (.var 0 0 255) (.lit 70)), true), ((.lt (.var 0 0 255) (.lit 69)), false), ((.lt (.var 0 0 255) (.lit 72)), true), ((.lt (.var 0 0 255) (.lit 78)), true), ((.lt (.var 0 0 255) (.lit 89)), true), ((.lt (.var 0 0 255) (.lit 67)), false)]) : False := by
  have h0 := hh _ _ (.head _)
  have h1 := hh _ _ (.tail _ (.head _))
  have h2 := hh _ _ (.tail _ (.tail _ (.head _)))
  have h3 := hh _ _ (.tail _ (.tail _ (.tail _ (.head _))))
  have h4 := hh _ _ (.tail _ (.tail _ (.tail _ (.tail _ (.head _)))))
  have h5 := hh _ _ (.tail _ (.tail _ (.tail _ (.tail _ (.tail _ (.head _))))))
  have h6 := hh _ _ (.tail _ (.tail _ (.tail _ (.tail _ (.tail _ (.tail _ (.head _)))))))
  have h7 := hh _ _ (.tail _ (.tail _ (.tail _ (.tail _ (.tail _ (.tail _ (.tail _ (.head _))))))))
  have h8 := hh _ _ (.tail _ (.tail _ (.tail _ (.tail _ (.tail _ (.tail _ (.tail _ (.tail _ (.head _)))))))))
  clear hh
  simp only [N.den, aRem, true_iff, Bool.false_eq_true, false_iff, bI_ne, ieq_iff, ilt_iff] at h0 h1 h2 h3 h4 h5 h6 h7 h8
  generalize hA0 : max 0 (min 18446744073709551615 (i 1)) = a at *
  generalize hB0 : max 0 (min 18446744073709551615 (i 2)) = b at *
  generalize max 0 (min 255 (i 0)) = c at *
  have ha : 0 ≤ a ∧ a ≤ 18446744073709551615 := by omega
  have hb : 0 ≤ b ∧ b ≤ 18446744073709551615 := by omega
  clear hA0 hB0
  have ta : a.tmod 4294967296 = a % 4294967296 := Int.tmod_eq_emod_of_nonneg ha.1
  have tb : b.tmod 4294967296 = b % 4294967296 := Int.tmod_eq_emod_of_nonneg hb.1
  have oa := or_hi (a % 4294967296) (by omega) (by omega)
  have ob := or_hi (b % 4294967296) (by omega) (by omega)
  have xa := xor_top (a % 4294967296) (by omega) (by omega)
  have xb := xor_top (b % 4294967296) (by omega) (by omega)
  have xa2 := xor_top (a % 4294967296 + 18446744069414584320) (by omega) (by omega)
  have xb2 := xor_top (b % 4294967296 + 18446744069414584320) (by omega) (by omega)
  have xa3 := xor_top a ha.1 ha.2
  have xb3 := xor_top b hb.1 hb.2
  have wa := w_i32 a
  have wb := w_i32 b
  have va := w_i64 a
  have vb := w_i64 b
  simp only [ta, tb, oa, w_u64] at h0 h1 h2 h3 h4 h5 h6 h7 h8
  try simp (disch := omega) only [Int.tmod_eq_emod_of_nonneg] at h0 h1 h2 h3 h4 h5 h6 h7 h8
  omega
theorem exc3_1 (i : Nat → Int) (hh : Holds i [((.eq (.conv .u64 (.conv .i32 (.var 1 0 18446744073709551615))) (.ar .or .u64 (.ar .rem .u64 (.var 1 0 18446744073709551615) (.lit 4294967296)) (.lit 18446744069414584320))), false), ((.lt (.ar .rem .u64 (.var 2 0 18446744073709551615) (.lit 4294967296)) (.lit 2147483648)), true), ((.lt (.ar .rem .u64 (.var 1 0 18446744073709551615) (.lit 4294967296)) (.lit 2147483648)), false), ((.lt (.var 0 0 255) (.lit 70)), true), ((.lt (.var 0 0 255) (.lit 69)), false), ((.lt (.var 0 0 255) (.lit 72)), true), ((.lt (.var 0 0 255) (.lit 78)), true), ((.lt (.var 0 0 255) (.lit 89)), true), ((.lt (.var 0 0 255) (.lit 67)), false)]) : False := by
  have h0 := hh _ _ (.head _)
  have h1 := hh _ _ (.tail _ (.head _))
  have h2 := hh _ _ (.tail _ (.tail _ (.head _)))
  have h3 := hh _ _ (.tail _ (.tail _ (.tail _ (.head _))))
  have h4 := hh _ _ (.tail _ (.tail _ (.tail _ (.tail _ (.head _)))))
  have h5 := hh _ _ (.tail _ (.tail _ (.tail _ (.tail _ (.tail _ (.head _))))))
  have h6 := hh _ _ (.tail _ (.tail _ (.tail _ (.tail _ (.tail _ (.tail _ (.head _)))))))
  have h7 := hh _ _ (.tail _ (.tail _ (.tail _ (.tail _ (.tail _ (.tail _ (.tail _ (.head _))))))))
  have h8 := hh _ _ (.tail _ (.tail _ (.tail _ (.tail _ (.tail _ (.tail _ (.tail _ (.tail _ (.head _)))))))))
  clear hh
  simp only [N.den, aRem, true_iff, Bool.false_eq_true, false_iff, bI_ne, ieq_iff, ilt_iff] at h0 h1 h2 h3 h4 h5 h6 h7 h8
  generalize hA0 : max 0 (min 18446744073709551615 (i 1)) = a at *
  generalize hB0 : max 0 (min 18446744073709551615 (i 2)) = b at *
  generalize max 0 (min 255 (i 0)) = c at *
  have ha : 0 ≤ a ∧ a ≤ 18446744073709551615 := by omega
  have hb : 0 ≤ b ∧ b ≤ 18446744073709551615 := by omega
  clear hA0 hB0
  have ta : a.tmod 4294967296 = a % 4294967296 := Int.tmod_eq_emod_of_nonneg ha.1
  have tb : b.tmod 4294967296 = b % 4294967296 := Int.tmod_eq_emod_of_nonneg hb.1
  have oa := or_hi (a % 4294967296) (by omega) (by omega)
  have ob := or_hi (b % 4294967296) (by omega) (by omega)
  have xa := xor_top (a % 4294967296) (by omega) (by omega)
  have xb := xor_top (b % 4294967296) (by omega) (by omega)
  have xa2 := xor_top (a % 4294967296 + 18446744069414584320) (by omega) (by omega)
  have xb2 := xor_top (b % 4294967296 + 18446744069414584320) (by omega) (by omega)
  have xa3 := xor_top a ha.1 ha.2
  have xb3 := xor_top b hb.1 hb.2
  have wa := w_i32 a
  have wb := w_i32 b
  have va := w_i64 a
  have vb := w_i64 b
  simp only [ta, tb, oa, w_u64] at h0 h1 h2 h3 h4 h5 h6 h7 h8
  try simp (disch := omega) only [Int.tmod_eq_emod_of_nonneg] at h0 h1 h2 h3 h4 h5 h6 h7 h8
  omega
theorem exc3_2 (i : Nat → Int) (hh : Holds i [((.eq (.conv .u64 (.conv .i32 (.var 1 0 18446744073709551615))) (.ar .rem .u64 (.var 1 0 18446744073709551615) (.lit 4294967296))), false), ((.lt (.ar .rem .u64 (.var 2 0 18446744073709551615) (.lit 4294967296)) (.lit 2147483648)), false), ((.lt (.ar .rem .u64 (.var 1 0 18446744073709551615) (.lit 4294967296)) (.lit 2147483648)), true), ((.lt (.var 0 0 255) (.lit 70)), true), ((.lt (.var 0 0 255) (.lit 69)), false), ((.lt (.var 0 0 255) (.lit 72)), true), ((.lt (.var 0 0 255) (.lit 78)), true), ((.lt (.var 0 0 255) (.lit 89)), true), ((.lt (.var 0 0 255) (.lit 67)), false)]) : False := by
  have h0 := hh _ _ (.head _)
  have h1 := hh _ _ (.tail _ (.head _))
  have h2 := hh _ _ (.tail _ (.tail _ (.head _)))
  have h3 := hh _ _ (.tail _ (.tail _ (.tail _ (.head _))))
  have h4 := hh _ _ (.tail _ (.tail _ (.tail _ (.tail _ (.head _)))))
  have h5 := hh _ _ (.tail _ (.tail _ (.tail _ (.tail _ (.tail _ (.head _))))))
  have h6 := hh _ _ (.tail _ (.tail _ (.tail _ (.tail _ (.tail _ (.tail _ (.head _)))))))
  have h7 := hh _ _ (.tail _ (.tail _ (.tail _ (.tail _ (.tail _ (.tail _ (.tail _ (.head _))))))))
  have h8 := hh _ _ (.tail _ (.tail _ (.tail _ (.tail _ (.tail _ (.tail _ (.tail _ (.tail _ (.head _)))))))))
  clear hh
  simp only [N.den, aRem, true_iff, Bool.false_eq_true, false_iff, bI_ne, ieq_iff, ilt_iff] at h0 h1 h2 h3 h4 h5 h6 h7 h8
  generalize hA0 : max 0 (min 18446744073709551615 (i 1)) = a at *
  generalize hB0 : max 0 (min 18446744073709551615 (i 2)) = b at *
  generalize max 0 (min 255 (i 0)) = c at *
  have ha : 0 ≤ a ∧ a ≤ 18446744073709551615 := by omega
  have hb : 0 ≤ b ∧ b ≤ 18446744073709551615 := by omega
  clear hA0 hB0
  have ta : a.tmod 4294967296 = a % 4294967296 := Int.tmod_eq_emod_of_nonneg ha.1
  have tb : b.tmod 4294967296 = b % 4294967296 := Int.tmod_eq_emod_of_nonneg hb.1
  have oa := or_hi (a % 4294967296) (by omega) (by omega)
  have ob := or_hi (b % 4294967296) (by omega) (by omega)
  have xa := xor_top (a % 4294967296) (by omega) (by omega)
  have xb := xor_top (b % 4294967296) (by omega) (by omega)
  have xa2 := xor_top (a % 4294967296 + 18446744069414584320) (by omega) (by omega)
  have xb2 := xor_top (b % 4294967296 + 18446744069414584320) (by omega) (by omega)
  have xa3 := xor_top a ha.1 ha.2
  have xb3 := xor_top b hb.1 hb.2
  have wa := w_i32 a
  have wb := w_i32 b
  have va := w_i64 a
  have vb := w_i64 b
  simp only [ta, tb, w_u64] at h0 h1 h2 h3 h4 h5 h6 h7 h8
  try simp (disch := omega) only [Int.tmod_eq_emod_of_nonneg] at h0 h1 h2 h3 h4 h5 h6 h7 h8
  omega
theorem exc3_3 (i : Nat → Int) (hh : Holds i [((.eq (.conv .u64 (.conv .i32 (.var 1 0 18446744073709551615))) (.ar .rem .u64 (.var 1 0 18446744073709551615) (.lit 4294967296))), false), ((.lt (.ar .rem .u64 (.var 2 0 18446744073709551615) (.lit 4294967296)) (.lit 2147483648)), true), ((.lt (.ar .rem .u64 (.var 1 0 18446744073709551615) (.lit 4294967296)) (.lit 2147483648)), true), ((.lt (.var 0 0 255) (.lit 70)), true), ((.lt (.var 0 0 255) (.lit 69)), false), ((.lt (.var 0 0 255) (.lit 72)), true), ((.lt (.var 0 0 255) (.lit 78)), true), ((.lt (.var 0 0 255) (.lit 89)), true), ((.lt (.var 0 0 255) (.lit 67)), false)]) : False := by
  have h0 := hh _ _ (.head _)
  have h1 := hh _ _ (.tail _ (.head _))
  have h2 := hh _ _ (.tail _ (.tail _ (.head _)))
  have h3 := hh _ _ (.tail _ (.tail _ (.tail _ (.head _))))
  have h4 := hh _ _ (.tail _ (.tail _ (.tail _ (.tail _ (.head _)))))
  have h5 := hh _ _ (.tail _ (.tail _ (.tail _ (.tail _ (.tail _ (.head _))))))
  have h6 := hh _ _ (.tail _ (.tail _ (.tail _ (.tail _ (.tail _ (.tail _ (.head _)))))))
  have h7 := hh _ _ (.tail _ (.tail _ (.tail _ (.tail _ (.tail _ (.tail _ (.tail _ (.head _))))))))
  have h8 := hh _ _ (.tail _ (.tail _ (.tail _ (.tail _ (.tail _ (.tail _ (.tail _ (.tail _ (.head _)))))))))
  clear hh
  simp only [N.den, aRem, true_iff, Bool.false_eq_true, false_iff, bI_ne, ieq_iff, ilt_iff] at h0 h1 h2 h3 h4 h5 h6 h7 h8
  generalize hA0 : max 0 (min 18446744073709551615 (i 1)) = a at *
  generalize hB0 : max 0 (min 18446744073709551615 (i 2)) = b at *
  generalize max 0 (min 255 (i 0)) = c at *
  have ha : 0 ≤ a ∧ a ≤ 18446744073709551615 := by omega
  have hb : 0 ≤ b ∧ b ≤ 18446744073709551615 := by omega
  clear hA0 hB0
  have ta : a.tmod 4294967296 = a % 4294967296 := Int.tmod_eq_emod_of_nonneg ha.1
  have tb : b.tmod 4294967296 = b % 4294967296 := Int.tmod_eq_emod_of_nonneg hb.1
  have oa := or_hi (a % 4294967296) (by omega) (by omega)
  have ob := or_hi (b % 4294967296) (by omega) (by omega)
  have xa := xor_top (a % 4294967296) (by omega) (by omega)
  have xb := xor_top (b % 4294967296) (by omega) (by omega)
  have xa2 := xor_top (a % 4294967296 + 18446744069414584320) (by omega) (by omega)
  have xb2 := xor_top (b % 4294967296 + 18446744069414584320) (by omega) (by omega)
  have xa3 := xor_top a ha.1 ha.2
  have xb3 := xor_top b hb.1 hb.2
  have wa := w_i32 a
  have wb := w_i32 b
  have va := w_i64 a
  have vb := w_i64 b
  simp only [ta, tb, w_u64] at h0 h1 h2 h3 h4 h5 h6 h7 h8
  try simp (disch := omega) only [Int.tmod_eq_emod_of_nonneg] at h0 h1 h2 h3 h4 h5 h6 h7 h8
  omega
theorem exc3_no : ∀ q ∈ exc3, ∀ i, ¬ Holds i q :=
  List.forall_mem_cons.2 ⟨exc3_0, List.forall_mem_cons.2 ⟨exc3_1, List.forall_mem_cons.2 ⟨exc3_2, List.forall_mem_cons.2 ⟨exc3_3, (fun p h => by cases h)⟩⟩⟩⟩
theorem exc4_0 (i : Nat → Int) (hh : Holds i [((.eq (.conv .u64 (.conv .i32 (.var 1 0 18446744073709551615))) (.ar .or .u64 (.ar .rem .u64 (.var 1 0 18446744073709551615) (.lit 4294967296)) (.lit 18446744069414584320))), false), ((.eq (.ar .add .u32 (.conv .u32 (.var 1 0 18446744073709551615)) (.conv .u32 (.var 2 0 18446744073709551615))) (.ar .rem .u64 (.ar .add .u64 (.ar .or .u64 (.ar .rem .u64 (.var 1 0 18446744073709551615) (.lit 4294967296)) (.lit 18446744069414584320)) (.ar .or .u64 (.ar .rem .u64 (.var 2 0 18446744073709551615) (.lit 4294967296)) (.lit 18446744069414584320))) (.lit 4294967296))), true), ((.lt (.ar .rem .u64 (.var 2 0 18446744073709551615) (.lit 4294967296)) (.lit 2147483648)), false), ((.lt (.ar .rem .u64 (.var 1 0 18446744073709551615) (.lit 4294967296)) (.lit 2147483648)), false), ((.lt (.var 0 0 255) (.lit 71)), true), ((.lt (.var 0 0 255) (.lit 70)), false), ((.lt (.var 0 0 255) (.lit 69)), false), ((.lt (.var 0 0 255) (.lit 72)), true), ((.lt (.var 0 0 255) (.lit 78)), true), ((.lt (.var 0 0 255) (.lit 89)), true), ((.lt (.var 0 0 255) (.lit 67)), false)]) : False := by
  have h0 := hh _ _ (.head _)
  have h1 := hh _ _ (.tail _ (.head _))
  have h2 := hh _ _ (.tail _ (.tail _ (.head _)))
  have h3 := hh _ _ (.tail _ (.tail _ (.tail _ (.head _))))
  have h4 := hh _ _ (.tail _ (.tail _ (.tail _ (.tail _ (.head _)))))
  have h5 := hh _ _ (.tail _ (.tail _ (.tail _ (.tail _ (.tail _ (.head _))))))
  have h6 := hh _ _ (.tail _ (.tail _ (.tail _ (.tail _ (.tail _ (.tail _ (.head _)))))))
  have h7 := hh _ _ (.tail _ (.tail _ (.tail _ (.tail _ (.tail _ (.tail _ (.tail _ (.head _))))))))
  have h8 := hh _ _ (.tail _ (.tail _ (.tail _ (.tail _ (.tail _ (.tail _ (.tail _ (.tail _ (.head _)))))))))
  have h9 := hh _ _ (.tail _ (.tail _ (.tail _ (.tail _ (.tail _ (.tail _ (.tail _ (.tail _ (.tail _ (.head _))))))))))
  have h10 := hh _ _ (.tail _ (.tail _ (.tail _ (.tail _ (.tail _ (.tail _ (.tail _ (.tail _ (.tail _ (.tail _ (.head _)))))))))))
  clear hh
  simp only [N.den, aAdd, aRem, true_iff, Bool.false_eq_true, false_iff, bI_ne, ieq_iff, ilt_iff] at h0 h1 h2 h3 h4 h5 h6 h7 h8 h9 h10
  generalize hA0 : max 0 (min 18446744073709551615 (i 1)) = a at *
  generalize hB0 : max 0 (min 18446744073709551615 (i 2)) = b at *
  generalize max 0 (min 255 (i 0)) = c at *
  have ha : 0 ≤ a ∧ a ≤ 18446744073709551615 := by omega
  have hb : 0 ≤ b ∧ b ≤ 18446744073709551615 := by omega
  clear hA0 hB0
  have ta : a.tmod 4294967296 = a % 4294967296 := Int.tmod_eq_emod_of_nonneg ha.1
  have tb : b.tmod 4294967296 = b % 4294967296 := Int.tmod_eq_emod_of_nonneg hb.1
  have oa := or_hi (a % 4294967296) (by omega) (by omega)
  have ob := or_hi (b % 4294967296) (by omega) (by omega)
  have xa := xor_top (a % 4294967296) (by omega) (by omega)
  have xb := xor_top (b % 4294967296) (by omega) (by omega)
  have xa2 := xor_top (a % 4294967296 + 18446744069414584320) (by omega) (by omega)
  have xb2 := xor_top (b % 4294967296 + 18446744069414584320) (by omega) (by omega)
  have xa3 := xor_top a ha.1 ha.2
  have xb3 := xor_top b hb.1 hb.2
  have wa := w_i32 a
  have wb := w_i32 b
  have va := w_i64 a
  have vb := w_i64 b
  simp only [ta, tb, oa, ob, w_u64, w_u32] at h0 h1 h2 h3 h4 h5 h6 h7 h8 h9 h10
  try simp (disch := omega) only [Int.tmod_eq_emod_of_nonneg] at h0 h1 h2 h3 h4 h5 h6 h7 h8 h9 h10
  omega
theorem exc4_1 (i : Nat → Int) (hh : Holds i [((.eq (.ar .add .u32 (.conv .u32 (.var 1 0 18446744073709551615)) (.conv .u32 (.var 2 0 18446744073709551615))) (.ar .rem .u64 (.ar .add .u64 (.ar .or .u64 (.ar .rem .u64 (.var 1 0 18446744073709551615) (.lit 4294967296)) (.lit 18446744069414584320)) (.ar .or .u64 (.ar .rem .u64 (.var 2 0 18446744073709551615) (.lit 4294967296)) (.lit 18446744069414584320))) (.lit 4294967296))), false), ((.lt (.ar .rem .u64 (.var 2 0 18446744073709551615) (.lit 4294967296)) (.lit 2147483648)), false), ((.lt (.ar .rem .u64 (.var 1 0 18446744073709551615) (.lit 4294967296)) (.lit 2147483648)), false), ((.lt (.var 0 0 255) (.lit 71)), true), ((.lt (.var 0 0 255) (.lit 70)), false), ((.lt (.var 0 0 255) (.lit 69)), false), ((.lt (.var 0 0 255) (.lit 72)), true), ((.lt (.var 0 0 255) (.lit 78)), true), ((.lt (.var 0 0 255) (.lit 89)), true), ((.lt (.var 0 0 255) (.lit 67)), false)]) : False := by
  have h0 := hh _ _ (.head _)
  have h1 := hh _ _ (.tail _ (.head _))
  have h2 := hh _ _ (.tail _ (.tail _ (.head _)))
  have h3 := hh _ _ (.tail _ (.tail _ (.tail _ (.head _))))
  have h4 := hh _ _ (.tail _ (.tail _ (.tail _ (.tail _ (.head _)))))
  have h5 := hh _ _ (.tail _ (.tail _ (.tail _ (.tail _ (.tail _ (.head _))))))
  have h6 := hh _ _ (.tail _ (.tail _ (.tail _ (.tail _ (.tail _ (.tail _ (.head _)))))))
  have h7 := hh _ _ (.tail _ (.tail _ (.tail _ (.tail _ (.tail _ (.tail _ (.tail _ (.head _))))))))
  have h8 := hh _ _ (.tail _ (.tail _ (.tail _ (.tail _ (.tail _ (.tail _ (.tail _ (.tail _ (.head _)))))))))
  have h9 := hh _ _ (.tail _ (.tail _ (.tail _ (.tail _ (.tail _ (.tail _ (.tail _ (.tail _ (.tail _ (.head _))))))))))
  clear hh
  simp only [N.den, aAdd, aRem, true_iff, Bool.false_eq_true, false_iff, bI_ne, ieq_iff, ilt_iff] at h0 h1 h2 h3 h4 h5 h6 h7 h8 h9
  generalize hA0 : max 0 (min 18446744073709551615 (i 1)) = a at *
  generalize hB0 : max 0 (min 18446744073709551615 (i 2)) = b at *
  generalize max 0 (min 255 (i 0)) = c at *
  have ha : 0 ≤ a ∧ a ≤ 18446744073709551615 := by omega
  have hb : 0 ≤ b ∧ b ≤ 18446744073709551615 := by omega
  clear hA0 hB0
  have ta : a.tmod 4294967296 = a % 4294967296 := Int.tmod_eq_emod_of_nonneg ha.1
  have tb : b.tmod 4294967296 = b % 4294967296 := Int.tmod_eq_emod_of_nonneg hb.1
  have oa := or_hi (a % 4294967296) (by omega) (by omega)
  have ob := or_hi (b % 4294967296) (by omega) (by omega)
  have xa := xor_top (a % 4294967296) (by omega) (by omega)
  have xb := xor_top (b % 4294967296) (by omega) (by omega)
  have xa2 := xor_top (a % 4294967296 + 18446744069414584320) (by omega) (by omega)
  have xb2 := xor_top (b % 4294967296 + 18446744069414584320) (by omega) (by omega)
  have xa3 := xor_top a ha.1 ha.2
  have xb3 := xor_top b hb.1 hb.2
  have wa := w_i32 a
  have wb := w_i32 b
  have va := w_i64 a
  have vb := w_i64 b
  simp only [ta, tb, oa, ob, w_u64, w_u32] at h0 h1 h2 h3 h4 h5 h6 h7 h8 h9
  try simp (disch := omega) only [Int.tmod_eq_emod_of_nonneg] at h0 h1 h2 h3 h4 h5 h6 h7 h8 h9
  omega
theorem exc4_2 (i : Nat → Int) (hh : Holds i [((.eq (.conv .u64 (.conv .i32 (.var 1 0 18446744073709551615))) (.ar .or .u64 (.ar .rem .u64 (.var 1 0 18446744073709551615) (.lit 4294967296)) (.lit 18446744069414584320))), false), ((.eq (.ar .add .u32 (.conv .u32 (.var 1 0 18446744073709551615)) (.conv .u32 (.var 2 0 18446744073709551615))) (.ar .rem .u64 (.ar .add .u64 (.ar .or .u64 (.ar .rem .u64 (.var 1 0 18446744073709551615) (.lit 4294967296)) (.lit 18446744069414584320)) (.ar .rem .u64 (.var 2 0 18446744073709551615) (.lit 4294967296))) (.lit 4294967296))), true), ((.lt (.ar .rem .u64 (.var 2 0 18446744073709551615) (.lit 4294967296)) (.lit 2147483648)), true), ((.lt (.ar .rem .u64 (.var 1 0 18446744073709551615) (.lit 4294967296)) (.lit 2147483648)), false), ((.lt (.var 0 0 255) (.lit 71)), true), ((.lt (.var 0 0 255) (.lit 70)), false), ((.lt (.var 0 0 255) (.lit 69)), false), ((.lt (.var 0 0 255) (.lit 72)), true), ((.lt (.var 0 0 255) (.lit 78)), true), ((.lt (.var 0 0 255) (.lit 89)), true), ((.lt (.var 0 0 255) (.lit 67)), false)]) : False := by
  have h0 := hh _ _ (.head _)
  have h1 := hh _ _ (.tail _ (.head _))
  have h2 := hh _ _ (.tail _ (.tail _ (.head _)))
  have h3 := hh _ _ (.tail _ (.tail _ (.tail _ (.head _))))
  have h4 := hh _ _ (.tail _ (.tail _ (.tail _ (.tail _ (.head _)))))
  have h5 := hh _ _ (.tail _ (.tail _ (.tail _ (.tail _ (.tail _ (.head _))))))
  have h6 := hh _ _ (.tail _ (.tail _ (.tail _ (.tail _ (.tail _ (.tail _ (.head _)))))))
  have h7 := hh _ _ (.tail _ (.tail _ (.tail _ (.tail _ (.tail _ (.tail _ (.tail _ (.head _))))))))
  have h8 := hh _ _ (.tail _ (.tail _ (.tail _ (.tail _ (.tail _ (.tail _ (.tail _ (.tail _ (.head _)))))))))
  have h9 := hh _ _ (.tail _ (.tail _ (.tail _ (.tail _ (.tail _ (.tail _ (.tail _ (.tail _ (.tail _ (.head _))))))))))
  have h10 := hh _ _ (.tail _ (.tail _ (.tail _ (.tail _ (.tail _ (.tail _ (.tail _ (.tail _ (.tail _ (.tail _ (.head _)))))))))))
  clear hh
  simp only [N.den, aAdd, aRem, true_iff, Bool.false_eq_true, false_iff, bI_ne, ieq_iff, ilt_iff] at h0 h1 h2 h3 h4 h5 h6 h7 h8 h9 h10
  generalize hA0 : max 0 (min 18446744073709551615 (i 1)) = a at *
  generalize hB0 : max 0 (min 18446744073709551615 (i 2)) = b at *
  generalize max 0 (min 255 (i 0)) = c at *
  have ha : 0 ≤ a ∧ a ≤ 18446744073709551615 := by omega
  have hb : 0 ≤ b ∧ b ≤ 18446744073709551615 := by omega
  clear hA0 hB0
  have ta : a.tmod 4294967296 = a % 4294967296 := Int.tmod_eq_emod_of_nonneg ha.1
  have tb : b.tmod 4294967296 = b % 4294967296 := Int.tmod_eq_emod_of_nonneg hb.1
  have oa := or_hi (a % 4294967296) (by omega) (by omega)
  have ob := or_hi (b % 4294967296) (by omega) (by omega)
  have xa := xor_top (a % 4294967296) (by omega) (by omega)
  have xb := xor_top (b % 4294967296) (by omega) (by omega)
  have xa2 := xor_top (a % 4294967296 + 18446744069414584320) (by omega) (by omega)
  have xb2 := xor_top (b % 4294967296 + 18446744069414584320) (by omega) (by omega)
  have xa3 := xor_top a ha.1 ha.2
  have xb3 := xor_top b hb.1 hb.2
  have wa := w_i32 a
  have wb := w_i32 b
  have va := w_i64 a
  have vb := w_i64 b
  simp only [ta, tb, oa, w_u64, w_u32] at h0 h1 h2 h3 h4 h5 h6 h7 h8 h9 h10
  try simp (disch := omega) only [Int.tmod_eq_emod_of_nonneg] at h0 h1 h2 h3 h4 h5 h6 h7 h8 h9 h10
  omega
theorem exc4_3 (i : Nat → Int) (hh : Holds i [((.eq (.ar .add .u32 (.conv .u32 (.var 1 0 18446744073709551615)) (.conv .u32 (.var 2 0 18446744073709551615))) (.ar .rem .u64 (.ar .add .u64 (.ar .or .u64 (.ar .rem .u64 (.var 1 0 18446744073709551615) (.lit 4294967296)) (.lit 18446744069414584320)) (.ar .rem .u64 (.var 2 0 18446744073709551615) (.lit 4294967296))) (.lit 4294967296))), false), ((.lt (.ar .rem .u64 (.var 2 0 18446744073709551615) (.lit 4294967296)) (.lit 2147483648)), true), ((.lt (.ar .rem .u64 (.var 1 0 18446744073709551615) (.lit 4294967296)) (.lit 2147483648)), false), ((.lt (.var 0 0 255) (.lit 71)), true), ((.lt (.var 0 0 255) (.lit 70)), false), ((.lt (.var 0 0 255) (.lit 69)), false), ((.lt (.var 0 0 255) (.lit 72)), true), ((.lt (.var 0 0 255) (.lit 78)), true), ((.lt (.var 0 0 255) (.lit 89)), true), ((.lt (.var 0 0 255) (.lit 67)), false)]) : False := by
  have h0 := hh _ _ (.head _)
  have h1 := hh _ _ (.tail _ (.head _))
  have h2 := hh _ _ (.tail _ (.tail _ (.head _)))
  have h3 := hh _ _ (.tail _ (.tail _ (.tail _ (.head _))))
  have h4 := hh _ _ (.tail _ (.tail _ (.tail _ (.tail _ (.head _)))))
  have h5 := hh _ _ (.tail _ (.tail _ (.tail _ (.tail _ (.tail _ (.head _))))))
  have h6 := hh _ _ (.tail _ (.tail _ (.tail _ (.tail _ (.tail _ (.tail _ (.head _)))))))
  have h7 := hh _ _ (.tail _ (.tail _ (.tail _ (.tail _ (.tail _ (.tail _ (.tail _ (.head _))))))))
  have h8 := hh _ _ (.tail _ (.tail _ (.tail _ (.tail _ (.tail _ (.tail _ (.tail _ (.tail _ (.head _)))))))))
  have h9 := hh _ _ (.tail _ (.tail _ (.tail _ (.tail _ (.tail _ (.tail _ (.tail _ (.tail _ (.tail _ (.head _))))))))))
  clear hh
  simp only [N.den, aAdd, aRem, true_iff, Bool.false_eq_true, false_iff, bI_ne, ieq_iff, ilt_iff] at h0 h1 h2 h3 h4 h5 h6 h7 h8 h9
  generalize hA0 : max 0 (min 18446744073709551615 (i 1)) = a at *
  generalize hB0 : max 0 (min 18446744073709551615 (i 2)) = b at *
  generalize max 0 (min 255 (i 0)) = c at *
  have ha : 0 ≤ a ∧ a ≤ 18446744073709551615 := by omega
  have hb : 0 ≤ b ∧ b ≤ 18446744073709551615 := by omega
  clear hA0 hB0
  have ta : a.tmod 4294967296 = a % 4294967296 := Int.tmod_eq_emod_of_nonneg ha.1
  have tb : b.tmod 4294967296 = b % 4294967296 := Int.tmod_eq_emod_of_nonneg hb.1
  have oa := or_hi (a % 4294967296) (by omega) (by omega)
  have ob := or_hi (b % 4294967296) (by omega) (by omega)
  have xa := xor_top (a % 4294967296) (by omega) (by omega)
  have xb := xor_top (b % 4294967296) (by omega) (by omega)
  have xa2 := xor_top (a % 4294967296 + 18446744069414584320) (by omega) (by omega)
  have xb2 := xor_top (b % 4294967296 + 18446744069414584320) (by omega) (by omega)
  have xa3 := xor_top a ha.1 ha.2
  have xb3 := xor_top b hb.1 hb.2
  have wa := w_i32 a
  have wb := w_i32 b
  have va := w_i64 a
  have vb := w_i64 b
  simp only [ta, tb, oa, w_u64, w_u32] at h0 h1 h2 h3 h4 h5 h6 h7 h8 h9
  try simp (disch := omega) only [Int.tmod_eq_emod_of_nonneg] at h0 h1 h2 h3 h4 h5 h6 h7 h8 h9
  omega
theorem exc4_4 (i : Nat → Int) (hh : Holds i [((.eq (.conv .u64 (.conv .i32 (.var 1 0 18446744073709551615))) (.ar .rem .u64 (.var 1 0 18446744073709551615) (.lit 4294967296))), false), ((.eq (.ar .add .u32 (.conv .u32 (.var 1 0 18446744073709551615)) (.conv .u32 (.var 2 0 18446744073709551615))) (.ar .rem .u64 (.ar .add .u64 (.ar .rem .u64 (.var 1 0 18446744073709551615) (.lit 4294967296)) (.ar .or .u64 (.ar .rem .u64 (.var 2 0 18446744073709551615) (.lit 4294967296)) (.lit 18446744069414584320))) (.lit 4294967296))), true), ((.lt (.ar .rem .u64 (.var 2 0 18446744073709551615) (.lit 4294967296)) (.lit 2147483648)), false), ((.lt (.ar .rem .u64 (.var 1 0 18446744073709551615) (.lit 4294967296)) (.lit 2147483648)), true), ((.lt (.var 0 0 255) (.lit 71)), true), ((.lt (.var 0 0 255) (.lit 70)), false), ((.lt (.var 0 0 255) (.lit 69)), false), ((.lt (.var 0 0 255) (.lit 72)), true), ((.lt (.var 0 0 255) (.lit 78)), true), ((.lt (.var 0 0 255) (.lit 89)), true), ((.lt (.var 0 0 255) (.lit 67)), false)]) : False := by
  have h0 := hh _ _ (.head _)
  have h1 := hh _ _ (.tail _ (.head _))
  have h2 := hh _ _ (.tail _ (.tail _ (.head _)))
  have h3 := hh _ _ (.tail _ (.tail _ (.tail _ (.head _))))
  have h4 := hh _ _ (.tail _ (.tail _ (.tail _ (.tail _ (.head _)))))
  have h5 := hh _ _ (.tail _ (.tail _ (.tail _ (.tail _ (.tail _ (.head _))))))
  have h6 := hh _ _ (.tail _ (.tail _ (.tail _ (.tail _ (.tail _ (.tail _ (.head _)))))))
  have h7 := hh _ _ (.tail _ (.tail _ (.tail _ (.tail _ (.tail _ (.tail _ (.tail _ (.head _))))))))
  have h8 := hh _ _ (.tail _ (.tail _ (.tail _ (.tail _ (.tail _ (.tail _ (.tail _ (.tail _ (.head _)))))))))
  have h9 := hh _ _ (.tail _ (.tail _ (.tail _ (.tail _ (.tail _ (.tail _ (.tail _ (.tail _ (.tail _ (.head _))))))))))
  have h10 := hh _ _ (.tail _ (.tail _ (.tail _ (.tail _ (.tail _ (.tail _ (.tail _ (.tail _ (.tail _ (.tail _ (.head _)))))))))))
  clear hh
  simp only [N.den, aAdd, aRem, true_iff, Bool.false_eq_true, false_iff, bI_ne, ieq_iff, ilt_iff] at h0 h1 h2 h3 h4 h5 h6 h7 h8 h9 h10
  generalize hA0 : max 0 (min 18446744073709551615 (i 1)) = a at *
  generalize hB0 : max 0 (min 18446744073709551615 (i 2)) = b at *
  generalize max 0 (min 255 (i 0)) = c at *
  have ha : 0 ≤ a ∧ a ≤ 18446744073709551615 := by omega
  have hb : 0 ≤ b ∧ b ≤ 18446744073709551615 := by omega
  clear hA0 hB0
  have ta : a.tmod 4294967296 = a % 4294967296 := Int.tmod_eq_emod_of_nonneg ha.1
  have tb : b.tmod 4294967296 = b % 4294967296 := Int.tmod_eq_emod_of_nonneg hb.1
  have oa := or_hi (a % 4294967296) (by omega) (by omega)
  have ob := or_hi (b % 4294967296) (by omega) (by omega)
  have xa := xor_top (a % 4294967296) (by omega) (by omega)
  have xb := xor_top (b % 4294967296) (by omega) (by omega)
  have xa2 := xor_top (a % 4294967296 + 18446744069414584320) (by omega) (by omega)
  have xb2 := xor_top (b % 4294967296 + 18446744069414584320) (by omega) (by omega)
  have xa3 := xor_top a ha.1 ha.2
  have xb3 := xor_top b hb.1 hb.2
  have wa := w_i32 a
  have wb := w_i32 b
  have va := w_i64 a
  have vb := w_i64 b
  simp only [ta, tb, ob, w_u64, w_u32] at h0 h1 h2 h3 h4 h5 h6 h7 h8 h9 h10
  try simp (disch := omega) only [Int.tmod_eq_emod_of_nonneg] at h0 h1 h2 h3 h4 h5 h6 h7 h8 h9 h10
  omega
theorem exc4_5 (i : Nat → Int) (hh : Holds i [((.eq (.ar .add .u32 (.conv .u32 (.var 1 0 18446744073709551615)) (.conv .u32 (.var 2 0 18446744073709551615))) (.ar .rem .u64 (.ar .add .u64 (.ar .rem .u64 (.var 1 0 18446744073709551615) (.lit 4294967296)) (.ar .or .u64 (.ar .rem .u64 (.var 2 0 18446744073709551615) (.lit 4294967296)) (.lit 18446744069414584320))) (.lit 4294967296))), false), ((.lt (.ar .rem .u64 (.var 2 0 18446744073709551615) (.lit 4294967296)) (.lit 2147483648)), false), ((.lt (.ar .rem .u64 (.var 1 0 18446744073709551615) (.lit 4294967296)) (.lit 2147483648)), true), ((.lt (.var 0 0 255) (.lit 71)), true), ((.lt (.var 0 0 255) (.lit 70)), false), ((.lt (.var 0 0 255) (.lit 69)), false), ((.lt (.var 0 0 255) (.lit 72)), true), ((.lt (.var 0 0 255) (.lit 78)), true), ((.lt (.var 0 0 255) (.lit 89)), true), ((.lt (.var 0 0 255) (.lit 67)), false)]) : False := by
  have h0 := hh _ _ (.head _)
  have h1 := hh _ _ (.tail _ (.head _))
  have h2 := hh _ _ (.tail _ (.tail _ (.head _)))
  have h3 := hh _ _ (.tail _ (.tail _ (.tail _ (.head _))))
  have h4 := hh _ _ (.tail _ (.tail _ (.tail _ (.tail _ (.head _)))))
  have h5 := hh _ _ (.tail _ (.tail _ (.tail _ (.tail _ (.tail _ (.head _))))))
  have h6 := hh _ _ (.tail _ (.tail _ (.tail _ (.tail _ (.tail _ (.tail _ (.head _)))))))
  have h7 := hh _ _ (.tail _ (.tail _ (.tail _ (.tail _ (.tail _ (.tail _ (.tail _ (.head _))))))))
  have h8 := hh _ _ (.tail _ (.tail _ (.tail _ (.tail _ (.tail _ (.tail _ (.tail _ (.tail _ (.head _)))))))))
  have h9 := hh _ _ (.tail _ (.tail _ (.tail _ (.tail _ (.tail _ (.tail _ (.tail _ (.tail _ (.tail _ (.head _))))))))))
  clear hh
  simp only [N.den, aAdd, aRem, true_iff, Bool.false_eq_true, false_iff, bI_ne, ieq_iff, ilt_iff] at h0 h1 h2 h3 h4 h5 h6 h7 h8 h9
  generalize hA0 : max 0 (min 18446744073709551615 (i 1)) = a at *
  generalize hB0 : max 0 (min 18446744073709551615 (i 2)) = b at *
  generalize max 0 (min 255 (i 0)) = c at *
  have ha : 0 ≤ a ∧ a ≤ 18446744073709551615 := by omega
  have hb : 0 ≤ b ∧ b ≤ 18446744073709551615 := by omega
  clear hA0 hB0
  have ta : a.tmod 4294967296 = a % 4294967296 := Int.tmod_eq_emod_of_nonneg ha.1
  have tb : b.tmod 4294967296 = b % 4294967296 := Int.tmod_eq_emod_of_nonneg hb.1
  have oa := or_hi (a % 4294967296) (by omega) (by omega)
  have ob := or_hi (b % 4294967296) (by omega) (by omega)
  have xa := xor_top (a % 4294967296) (by omega) (by omega)
  have xb := xor_top (b % 4294967296) (by omega) (by omega)
  have xa2 := xor_top (a % 4294967296 + 18446744069414584320) (by omega) (by omega)
  have xb2 := xor_top (b % 4294967296 + 18446744069414584320) (by omega) (by omega)
  have xa3 := xor_top a ha.1 ha.2
  have xb3 := xor_top b hb.1 hb.2
  have wa := w_i32 a
  have wb := w_i32 b
  have va := w_i64 a
  have vb := w_i64 b
  simp only [ta, tb, ob, w_u64, w_u32] at h0 h1 h2 h3 h4 h5 h6 h7 h8 h9
  try simp (disch := omega) only [Int.tmod_eq_emod_of_nonneg] at h0 h1 h2 h3 h4 h5 h6 h7 h8 h9
  omega
theorem exc4_6 (i : Nat → Int) (hh : Holds i [((.eq (.conv .u64 (.conv .i32 (.var 1 0 18446744073709551615))) (.ar .rem .u64 (.var 1 0 18446744073709551615) (.lit 4294967296))), false), ((.eq (.ar .add .u32 (.conv .u32 (.var 1 0 18446744073709551615)) (.conv .u32 (.var 2 0 18446744073709551615))) (.ar .rem .u64 (.ar .add .u64 (.ar .rem .u64 (.var 1 0 18446744073709551615) (.lit 4294967296)) (.ar .rem .u64 (.var 2 0 18446744073709551615) (.lit 4294967296))) (.lit 4294967296))), true), ((.lt (.ar .rem .u64 (.var 2 0 18446744073709551615) (.lit 4294967296)) (.lit 2147483648)), true), ((.lt (.ar .rem .u64 (.var 1 0 18446744073709551615) (.lit 4294967296)) (.lit 2147483648)), true), ((.lt (.var 0 0 255) (.lit 71)), true), ((.lt (.var 0 0 255) (.lit 70)), false), ((.lt (.var 0 0 255) (.lit 69)), false), ((.lt (.var 0 0 255) (.lit 72)), true), ((.lt (.var 0 0 255) (.lit 78)), true), ((.lt (.var 0 0 255) (.lit 89)), true), ((.lt (.var 0 0 255) (.lit 67)), false)]) : False := by
  have h0 := hh _ _ (.head _)
  have h1 := hh _ _ (.tail _ (.head _))
  have h2 := hh _ _ (.tail _ (.tail _ (.head _)))
  have h3 := hh _ _ (.tail _ (.tail _ (.tail _ (.head _))))
  have h4 := hh _ _ (.tail _ (.tail _ (.tail _ (.tail _ (.head _)))))
  have h5 := hh _ _ (.tail _ (.tail _ (.tail _ (.tail _ (.tail _ (.head _))))))
  have h6 := hh _ _ (.tail _ (.tail _ (.tail _ (.tail _ (.tail _ (.tail _ (.head _)))))))
  have h7 := hh _ _ (.tail _ (.tail _ (.tail _ (.tail _ (.tail _ (.tail _ (.tail _ (.head _))))))))
  have h8 := hh _ _ (.tail _ (.tail _ (.tail _ (.tail _ (.tail _ (.tail _ (.tail _ (.tail _ (.head _)))))))))
  have h9 := hh _ _ (.tail _ (.tail _ (.tail _ (.tail _ (.tail _ (.tail _ (.tail _ (.tail _ (.tail _ (.head _))))))))))
  have h10 := hh _ _ (.tail _ (.tail _ (.tail _ (.tail _ (.tail _ (.tail _ (.tail _ (.tail _ (.tail _ (.tail _ (.head _)))))))))))
  clear hh
  simp only [N.den, aAdd, aRem, true_iff, Bool.false_eq_true, false_iff, bI_ne, ieq_iff, ilt_iff] at h0 h1 h2 h3 h4 h5 h6 h7 h8 h9 h10
  generalize hA0 : max 0 (min 18446744073709551615 (i 1)) = a at *
  generalize hB0 : max 0 (min 18446744073709551615 (i 2)) = b at *
  generalize max 0 (min 255 (i 0)) = c at *
  have ha : 0 ≤ a ∧ a ≤ 18446744073709551615 := by omega
  have hb : 0 ≤ b ∧ b ≤ 18446744073709551615 := by omega
  clear hA0 hB0
  have ta : a.tmod 4294967296 = a % 4294967296 := Int.tmod_eq_emod_of_nonneg ha.1
  have tb : b.tmod 4294967296 = b % 4294967296 := Int.tmod_eq_emod_of_nonneg hb.1
  have oa := or_hi (a % 4294967296) (by omega) (by omega)
  have ob := or_hi (b % 4294967296) (by omega) (by omega)
  have xa := xor_top (a % 4294967296) (by omega) (by omega)
  have xb := xor_top (b % 4294967296) (by omega) (by omega)
  have xa2 := xor_top (a % 4294967296 + 18446744069414584320) (by omega) (by omega)
  have xb2 := xor_top (b % 4294967296 + 18446744069414584320) (by omega) (by omega)
  have xa3 := xor_top a ha.1 ha.2
  have xb3 := xor_top b hb.1 hb.2
  have wa := w_i32 a
  have wb := w_i32 b
  have va := w_i64 a
  have vb := w_i64 b
  simp only [ta, tb, w_u64, w_u32] at h0 h1 h2 h3 h4 h5 h6 h7 h8 h9 h10
  try simp (disch := omega) only [Int.tmod_eq_emod_of_nonneg] at h0 h1 h2 h3 h4 h5 h6 h7 h8 h9 h10
  omega
theorem exc4_7 (i : Nat → Int) (hh : Holds i [((.eq (.ar .add .u32 (.conv .u32 (.var 1 0 18446744073709551615)) (.conv .u32 (.var 2 0 18446744073709551615))) (.ar .rem .u64 (.ar .add .u64 (.ar .rem .u64 (.var 1 0 18446744073709551615) (.lit 4294967296)) (.ar .rem .u64 (.var 2 0 18446744073709551615) (.lit 4294967296))) (.lit 4294967296))), false), ((.lt (.ar .rem .u64 (.var 2 0 18446744073709551615) (.lit 4294967296)) (.lit 2147483648)), true), ((.lt (.ar .rem .u64 (.var 1 0 18446744073709551615) (.lit 4294967296)) (.lit 2147483648)), true), ((.lt (.var 0 0 255) (.lit 71)), true), ((.lt (.var 0 0 255) (.lit 70)), false), ((.lt (.var 0 0 255) (.lit 69)), false), ((.lt (.var 0 0 255) (.lit 72)), true), ((.lt (.var 0 0 255) (.lit 78)), true), ((.lt (.var 0 0 255) (.lit 89)), true), ((.lt (.var 0 0 255) (.lit 67)), false)]) : False := by
  have h0 := hh _ _ (.head _)
  have h1 := hh _ _ (.tail _ (.head _))
  have h2 := hh _ _ (.tail _ (.tail _ (.head _)))
  have h3 := hh _ _ (.tail _ (.tail _ (.tail _ (.head _))))
  have h4 := hh _ _ (.tail _ (.tail _ (.tail _ (.tail _ (.head _)))))
  have h5 := hh _ _ (.tail _ (.tail _ (.tail _ (.tail _ (.tail _ (.head _))))))
  have h6 := hh _ _ (.tail _ (.tail _ (.tail _ (.tail _ (.tail _ (.tail _ (.head _)))))))
  have h7 := hh _ _ (.tail _ (.tail _ (.tail _ (.tail _ (.tail _ (.tail _ (.tail _ (.head _))))))))
  have h8 := hh _ _ (.tail _ (.tail _ (.tail _ (.tail _ (.tail _ (.tail _ (.tail _ (.tail _ (.head _)))))))))
  have h9 := hh _ _ (.tail _ (.tail _ (.tail _ (.tail _ (.tail _ (.tail _ (.tail _ (.tail _ (.tail _ (.head _))))))))))
  clear hh
  simp only [N.den, aAdd, aRem, true_iff, Bool.false_eq_true, false_iff, bI_ne, ieq_iff, ilt_iff] at h0 h1 h2 h3 h4 h5 h6 h7 h8 h9
  generalize hA0 : max 0 (min 18446744073709551615 (i 1)) = a at *
  generalize hB0 : max 0 (min 18446744073709551615 (i 2)) = b at *
  generalize max 0 (min 255 (i 0)) = c at *
  have ha : 0 ≤ a ∧ a ≤ 18446744073709551615 := by omega
  have hb : 0 ≤ b ∧ b ≤ 18446744073709551615 := by omega
  clear hA0 hB0
  have ta : a.tmod 4294967296 = a % 4294967296 := Int.tmod_eq_emod_of_nonneg ha.1
  have tb : b.tmod 4294967296 = b % 4294967296 := Int.tmod_eq_emod_of_nonneg hb.1
  have oa := or_hi (a % 4294967296) (by omega) (by omega)
  have ob := or_hi (b % 4294967296) (by omega) (by omega)
  have xa := xor_top (a % 4294967296) (by omega) (by omega)
  have xb := xor_top (b % 4294967296) (by omega) (by omega)
  have xa2 := xor_top (a % 4294967296 + 18446744069414584320) (by omega) (by omega)
  have xb2 := xor_top (b % 4294967296 + 18446744069414584320) (by omega) (by omega)
  have xa3 := xor_top a ha.1 ha.2
  have xb3 := xor_top b hb.1 hb.2
  have wa := w_i32 a
  have wb := w_i32 b
  have va := w_i64 a
  have vb := w_i64 b
  simp only [ta, tb, w_u64, w_u32] at h0 h1 h2 h3 h4 h5 h6 h7 h8 h9
  try simp (disch := omega) only [Int.tmod_eq_emod_of_nonneg] at h0 h1 h2 h3 h4 h5 h6 h7 h8 h9
  omega
theorem exc4_no : ∀ q ∈ exc4, ∀ i, ¬ Holds i q :=
  List.forall_mem_cons.2 ⟨exc4_0, List.forall_mem_cons.2 ⟨exc4_1, List.forall_mem_cons.2 ⟨exc4_2, List.forall_mem_cons.2 ⟨exc4_3, List.forall_mem_cons.2 ⟨exc4_4, List.forall_mem_cons.2 ⟨exc4_5, List.forall_mem_cons.2 ⟨exc4_6, List.forall_mem_cons.2 ⟨exc4_7, (fun p h => by cases h)⟩⟩⟩⟩⟩⟩⟩⟩
theorem exc5_0 (i : Nat → Int) (hh : Holds i [((.eq (.conv .u64 (.conv .i32 (.var 1 0 18446744073709551615))) (.ar .or .u64 (.ar .rem .u64 (.var 1 0 18446744073709551615) (.lit 4294967296)) (.lit 18446744069414584320))), false), ((.lt (.ar .rem .u64 (.var 2 0 18446744073709551615) (.lit 4294967296)) (.lit 2147483648)), false), ((.lt (.ar .rem .u64 (.var 1 0 18446744073709551615) (.lit 4294967296)) (.lit 2147483648)), false), ((.lt (.var 0 0 255) (.lit 71)), false), ((.lt (.var 0 0 255) (.lit 70)), false), ((.lt (.var 0 0 255) (.lit 69)), false), ((.lt (.var 0 0 255) (.lit 72)), true), ((.lt (.var 0 0 255) (.lit 78)), true), ((.lt (.var 0 0 255) (.lit 89)), true), ((.lt (.var 0 0 255) (.lit 67)), false)]) : False := by
  have h0 := hh _ _ (.head _)
  have h1 := hh _ _ (.tail _ (.head _))
  have h2 := hh _ _ (.tail _ (.tail _ (.head _)))
  have h3 := hh _ _ (.tail _ (.tail _ (.tail _ (.head _))))
  have h4 := hh _ _ (.tail _ (.tail _ (.tail _ (.tail _ (.head _)))))
  have h5 := hh _ _ (.tail _ (.tail _ (.tail _ (.tail _ (.tail _ (.head _))))))
  have h6 := hh _ _ (.tail _ (.tail _ (.tail _ (.tail _ (.tail _ (.tail _ (.head _)))))))
  have h7 := hh _ _ (.tail _ (.tail _ (.tail _ (.tail _ (.tail _ (.tail _ (.tail _ (.head _))))))))
  have h8 := hh _ _ (.tail _ (.tail _ (.tail _ (.tail _ (.tail _ (.tail _ (.tail _ (.tail _ (.head _)))))))))
  have h9 := hh _ _ (.tail _ (.tail _ (.tail _ (.tail _ (.tail _ (.tail _ (.tail _ (.tail _ (.tail _ (.head _))))))))))
  clear hh
  simp only [N.den, aRem, true_iff, Bool.false_eq_true, false_iff, bI_ne, ieq_iff, ilt_iff] at h0 h1 h2 h3 h4 h5 h6 h7 h8 h9
  generalize hA0 : max 0 (min 18446744073709551615 (i 1)) = a at *
  generalize hB0 : max 0 (min 18446744073709551615 (i 2)) = b at *
  generalize max 0 (min 255 (i 0)) = c at *
  have ha : 0 ≤ a ∧ a ≤ 18446744073709551615 := by omega
  have hb : 0 ≤ b ∧ b ≤ 18446744073709551615 := by omega
  clear hA0 hB0
  have ta : a.tmod 4294967296 = a % 4294967296 := Int.tmod_eq_emod_of_nonneg ha.1
  have tb : b.tmod 4294967296 = b % 4294967296 := Int.tmod_eq_emod_of_nonneg hb.1
  have oa := or_hi (a % 4294967296) (by omega) (by omega)
  have ob := or_hi (b % 4294967296) (by omega) (by omega)
  have xa := xor_top (a % 4294967296) (by omega) (by omega)
  have xb := xor_top (b % 4294967296) (by omega) (by omega)
  have xa2 := xor_top (a % 4294967296 + 18446744069414584320) (by omega) (by omega)
  have xb2 := xor_top (b % 4294967296 + 18446744069414584320) (by omega) (by omega)
  have xa3 := xor_top a ha.1 ha.2
  have xb3 := xor_top b hb.1 hb.2
  have wa := w_i32 a
  have wb := w_i32 b
  have va := w_i64 a
  have vb := w_i64 b
  simp only [ta, tb, oa, w_u64] at h0 h1 h2 h3 h4 h5 h6 h7 h8 h9
  try simp (disch := omega) only [Int.tmod_eq_emod_of_nonneg] at h0 h1 h2 h3 h4 h5 h6 h7 h8 h9
  omega
theorem exc5_1 (i : Nat → Int) (hh : Holds i [((.eq (.conv .u64 (.conv .i32 (.var 1 0 18446744073709551615))) (.ar .or .u64 (.ar .rem .u64 (.var 1 0 18446744073709551615) (.lit 4294967296)) (.lit 18446744069414584320))), false), ((.lt (.ar .rem .u64 (.var 2 0 18446744073709551615) (.lit 4294967296)) (.lit 2147483648)), true), ((.lt (.ar .rem .u64 (.var 1 0 18446744073709551615) (.lit 4294967296)) (.lit 2147483648)), false), ((.lt (.var 0 0 255) (.lit 71)), false), ((.lt (.var 0 0 255) (.lit 70)), false), ((.lt (.var 0 0 255) (.lit 69)), false), ((.lt (.var 0 0 255) (.lit 72)), true), ((.lt (.var 0 0 255) (.lit 78)), true), ((.lt (.var 0 0 255) (.lit 89)), true), ((.lt (.var 0 0 255) (.lit 67)), false)]) : False := by
  have h0 := hh _ _ (.head _)
  have h1 := hh _ _ (.tail _ (.head _))
  have h2 := hh _ _ (.tail _ (.tail _ (.head _)))
  have h3 := hh _ _ (.tail _ (.tail _ (.tail _ (.head _))))
  have h4 := hh _ _ (.tail _ (.tail _ (.tail _ (.tail _ (.head _)))))
  have h5 := hh _ _ (.tail _ (.tail _ (.tail _ (.tail _ (.tail _ (.head _))))))
  have h6 := hh _ _ (.tail _ (.tail _ (.tail _ (.tail _ (.tail _ (.tail _ (.head _)))))))
  have h7 := hh _ _ (.tail _ (.tail _ (.tail _ (.tail _ (.tail _ (.tail _ (.tail _ (.head _))))))))
  have h8 := hh _ _ (.tail _ (.tail _ (.tail _ (.tail _ (.tail _ (.tail _ (.tail _ (.tail _ (.head _)))))))))
  have h9 := hh _ _ (.tail _ (.tail _ (.tail _ (.tail _ (.tail _ (.tail _ (.tail _ (.tail _ (.tail _ (.head _))))))))))
  clear hh
  simp only [N.den, aRem, true_iff, Bool.false_eq_true, false_iff, bI_ne, ieq_iff, ilt_iff] at h0 h1 h2 h3 h4 h5 h6 h7 h8 h9
  generalize hA0 : max 0 (min 18446744073709551615 (i 1)) = a at *
  generalize hB0 : max 0 (min 18446744073709551615 (i 2)) = b at *
  generalize max 0 (min 255 (i 0)) = c at *
  have ha : 0 ≤ a ∧ a ≤ 18446744073709551615 := by omega
  have hb : 0 ≤ b ∧ b ≤ 18446744073709551615 := by omega
  clear hA0 hB0
  have ta : a.tmod 4294967296 = a % 4294967296 := Int.tmod_eq_emod_of_nonneg ha.1
  have tb : b.tmod 4294967296 = b % 4294967296 := Int.tmod_eq_emod_of_nonneg hb.1
  have oa := or_hi (a % 4294967296) (by omega) (by omega)
  have ob := or_hi (b % 4294967296) (by omega) (by omega)
  have xa := xor_top (a % 4294967296) (by omega) (by omega)
  have xb := xor_top (b % 4294967296) (by omega) (by omega)
  have xa2 := xor_top (a % 4294967296 + 18446744069414584320) (by omega) (by omega)
  have xb2 := xor_top (b % 4294967296 + 18446744069414584320) (by omega) (by omega)
  have xa3 := xor_top a ha.1 ha.2
  have xb3 := xor_top b hb.1 hb.2
  have wa := w_i32 a
  have wb := w_i32 b
  have va := w_i64 a
  have vb := w_i64 b
  simp only [ta, tb, oa, w_u64] at h0 h1 h2 h3 h4 h5 h6 h7 h8 h9
  try simp (disch := omega) only [Int.tmod_eq_emod_of_nonneg] at h0 h1 h2 h3 h4 h5 h6 h7 h8 h9
  omega
theorem exc5_2 (i : Nat → Int) (hh : Holds i [((.eq (.conv .u64 (.conv .i32 (.var 1 0 18446744073709551615))) (.ar .rem .u64 (.var 1 0 18446744073709551615) (.lit 4294967296))), false), ((.lt (.ar .rem .u64 (.var 2 0 18446744073709551615) (.lit 4294967296)) (.lit 2147483648)), false), ((.lt (.ar .rem .u64 (.var 1 0 18446744073709551615) (.lit 4294967296)) (.lit 2147483648)), true), ((.lt (.var 0 0 255) (.lit 71)), false), ((.lt (.var 0 0 255) (.lit 70)), false), ((.lt (.var 0 0 255) (.lit 69)), false), ((.lt (.var 0 0 255) (.lit 72)), true), ((.lt (.var 0 0 255) (.lit 78)), true), ((.lt (.var 0 0 255) (.lit 89)), true), ((.lt (.var 0 0 255) (.lit 67)), false)]) : False := by
  have h0 := hh _ _ (.head _)
  have h1 := hh _ _ (.tail _ (.head _))
  have h2 := hh _ _ (.tail _ (.tail _ (.head _)))
  have h3 := hh _ _ (.tail _ (.tail _ (.tail _ (.head _))))
  have h4 := hh _ _ (.tail _ (.tail _ (.tail _ (.tail _ (.head _)))))
  have h5 := hh _ _ (.tail _ (.tail _ (.tail _ (.tail _ (.tail _ (.head _))))))
  have h6 := hh _ _ (.tail _ (.tail _ (.tail _ (.tail _ (.tail _ (.tail _ (.head _)))))))
  have h7 := hh _ _ (.tail _ (.tail _ (.tail _ (.tail _ (.tail _ (.tail _ (.tail _ (.head _))))))))
  have h8 := hh _ _ (.tail _ (.tail _ (.tail _ (.tail _ (.tail _ (.tail _ (.tail _ (.tail _ (.head _)))))))))
  have h9 := hh _ _ (.tail _ (.tail _ (.tail _ (.tail _ (.tail _ (.tail _ (.tail _ (.tail _ (.tail _ (.head _))))))))))
  clear hh
  simp only [N.den, aRem, true_iff, Bool.false_eq_true, false_iff, bI_ne, ieq_iff, ilt_iff] at h0 h1 h2 h3 h4 h5 h6 h7 h8 h9
  generalize hA0 : max 0 (min 18446744073709551615 (i 1)) = a at *
  generalize hB0 : max 0 (min 18446744073709551615 (i 2)) = b at *
  generalize max 0 (min 255 (i 0)) = c at *
  have ha : 0 ≤ a ∧ a ≤ 18446744073709551615 := by omega
  have hb : 0 ≤ b ∧ b ≤ 18446744073709551615 := by omega
  clear hA0 hB0
  have ta : a.tmod 4294967296 = a % 4294967296 := Int.tmod_eq_emod_of_nonneg ha.1
  have tb : b.tmod 4294967296 = b % 4294967296 := Int.tmod_eq_emod_of_nonneg hb.1
  have oa := or_hi (a % 4294967296) (by omega) (by omega)
  have ob := or_hi (b % 4294967296) (by omega) (by omega)
  have xa := xor_top (a % 4294967296) (by omega) (by omega)
  have xb := xor_top (b % 4294967296) (by omega) (by omega)
  have xa2 := xor_top (a % 4294967296 + 18446744069414584320) (by omega) (by omega)
  have xb2 := xor_top (b % 4294967296 + 18446744069414584320) (by omega) (by omega)
  have xa3 := xor_top a ha.1 ha.2
  have xb3 := xor_top b hb.1 hb.2
  have wa := w_i32 a
  have wb := w_i32 b
  have va := w_i64 a
  have vb := w_i64 b
  simp only [ta, tb, w_u64] at h0 h1 h2 h3 h4 h5 h6 h7 h8 h9
  try simp (disch := omega) only [Int.tmod_eq_emod_of_nonneg] at h0 h1 h2 h3 h4 h5 h6 h7 h8 h9
  omega
theorem exc5_3 (i : Nat → Int) (hh : Holds i [((.eq (.conv .u64 (.conv .i32 (.var 1 0 18446744073709551615))) (.ar .rem .u64 (.var 1 0 18446744073709551615) (.lit 4294967296))), false), ((.lt (.ar .rem .u64 (.var 2 0 18446744073709551615) (.lit 4294967296)) (.lit 2147483648)), true), ((.lt (.ar .rem .u64 (.var 1 0 18446744073709551615) (.lit 4294967296)) (.lit 2147483648)), true), ((.lt (.var 0 0 255) (.lit 71)), false), ((.lt (.var 0 0 255) (.lit 70)), false), ((.lt (.var 0 0 255) (.lit 69)), false), ((.lt (.var 0 0 255) (.lit 72)), true), ((.lt (.var 0 0 255) (.lit 78)), true), ((.lt (.var 0 0 255) (.lit 89)), true), ((.lt (.var 0 0 255) (.lit 67)), false)]) : False := by
  have h0 := hh _ _ (.head _)
  have h1 := hh _ _ (.tail _ (.head _))
  have h2 := hh _ _ (.tail _ (.tail _ (.head _)))
  have h3 := hh _ _ (.tail _ (.tail _ (.tail _ (.head _))))
  have h4 := hh _ _ (.tail _ (.tail _ (.tail _ (.tail _ (.head _)))))
  have h5 := hh _ _ (.tail _ (.tail _ (.tail _ (.tail _ (.tail _ (.head _))))))
  have h6 := hh _ _ (.tail _ (.tail _ (.tail _ (.tail _ (.tail _ (.tail _ (.head _)))))))
  have h7 := hh _ _ (.tail _ (.tail _ (.tail _ (.tail _ (.tail _ (.tail _ (.tail _ (.head _))))))))
  have h8 := hh _ _ (.tail _ (.tail _ (.tail _ (.tail _ (.tail _ (.tail _ (.tail _ (.tail _ (.head _)))))))))
  have h9 := hh _ _ (.tail _ (.tail _ (.tail _ (.tail _ (.tail _ (.tail _ (.tail _ (.tail _ (.tail _ (.head _))))))))))
  clear hh
  simp only [N.den, aRem, true_iff, Bool.false_eq_true, false_iff, bI_ne, ieq_iff, ilt_iff] at h0 h1 h2 h3 h4 h5 h6 h7 h8 h9
  generalize hA0 : max 0 (min 18446744073709551615 (i 1)) = a at *
  generalize hB0 : max 0 (min 18446744073709551615 (i 2)) = b at *
  generalize max 0 (min 255 (i 0)) = c at *
  have ha : 0 ≤ a ∧ a ≤ 18446744073709551615 := by omega
  have hb : 0 ≤ b ∧ b ≤ 18446744073709551615 := by omega
  clear hA0 hB0
  have ta : a.tmod 4294967296 = a % 4294967296 := Int.tmod_eq_emod_of_nonneg ha.1
  have tb : b.tmod 4294967296 = b % 4294967296 := Int.tmod_eq_emod_of_nonneg hb.1
  have oa := or_hi (a % 4294967296) (by omega) (by omega)
  have ob := or_hi (b % 4294967296) (by omega) (by omega)
  have xa := xor_top (a % 4294967296) (by omega) (by omega)
  have xb := xor_top (b % 4294967296) (by omega) (by omega)
  have xa2 := xor_top (a % 4294967296 + 18446744069414584320) (by omega) (by omega)
  have xb2 := xor_top (b % 4294967296 + 18446744069414584320) (by omega) (by omega)
  have xa3 := xor_top a ha.1 ha.2
  have xb3 := xor_top b hb.1 hb.2
  have wa := w_i32 a
  have wb := w_i32 b
  have va := w_i64 a
  have vb := w_i64 b
  simp only [ta, tb, w_u64] at h0 h1 h2 h3 h4 h5 h6 h7 h8 h9
  try simp (disch := omega) only [Int.tmod_eq_emod_of_nonneg] at h0 h1 h2 h3 h4 h5 h6 h7 h8 h9
  omega
theorem exc5_no : ∀ q ∈ exc5, ∀ i, ¬ Holds i q :=
  List.forall_mem_cons.2 ⟨exc5_0, List.forall_mem_cons.2 ⟨exc5_1, List.forall_mem_cons.2 ⟨exc5_2, List.forall_mem_cons.2 ⟨exc5_3, (fun p h => by cases h)⟩⟩⟩⟩
theorem exc6_0 (i : Nat → Int) (hh : Holds i [((.eq (.conv .u64 (.conv .i32 (.var 1 0 18446744073709551615))) (.ar .or .u64 (.ar .rem .u64 (.var 1 0 18446744073709551615) (.lit 4294967296)) (.lit 18446744069414584320))), false), ((.lt (.ar .rem .u64 (.var 2 0 18446744073709551615) (.lit 4294967296)) (.lit 2147483648)), false), ((.lt (.ar .rem .u64 (.var 1 0 18446744073709551615) (.lit 4294967296)) (.lit 2147483648)), false), ((.lt (.var 0 0 255) (.lit 73)), true), ((.lt (.var 0 0 255) (.lit 75)), true), ((.lt (.var 0 0 255) (.lit 72)), false), ((.lt (.var 0 0 255) (.lit 78)), true), ((.lt (.var 0 0 255) (.lit 89)), true), ((.lt (.var 0 0 255) (.lit 67)), false)]) : False := by
  have h0 := hh _ _ (.head _)
  have h1 := hh _ _ (.tail _ (.head _))
  have h2 := hh _ _ (.tail _ (.tail _ (.head _)))
  have h3 := hh _ _ (.tail _ (.tail _ (.tail _ (.head _))))
  have h4 := hh _ _ (.tail _ (.tail _ (.tail _ (.tail _ (.head _)))))
  have h5 := hh _ _ (.tail _ (.tail _ (.tail _ (.tail _ (.tail _ (.head _))))))
  have h6 := hh _ _ (.tail _ (.tail _ (.tail _ (.tail _ (.tail _ (.tail _ (.head _)))))))
  have h7 := hh _ _ (.tail _ (.tail _ (.tail _ (.tail _ (.tail _ (.tail _ (.tail _ (.head _))))))))
  have h8 := hh _ _ (.tail _ (.tail _ (.tail _ (.tail _ (.tail _ (.tail _ (.tail _ (.tail _ (.head _)))))))))
  clear hh
  simp only [N.den, aRem, true_iff, Bool.false_eq_true, false_iff, bI_ne, ieq_iff, ilt_iff] at h0 h1 h2 h3 h4 h5 h6 h7 h8
  generalize hA0 : max 0 (min 18446744073709551615 (i 1)) = a at *
  generalize hB0 : max 0 (min 18446744073709551615 (i 2)) = b at *
  generalize max 0 (min 255 (i 0)) = c at *
  have ha : 0 ≤ a ∧ a ≤ 18446744073709551615 := by omega
  have hb : 0 ≤ b ∧ b ≤ 18446744073709551615 := by omega
  clear hA0 hB0
  have ta : a.tmod 4294967296 = a % 4294967296 := Int.tmod_eq_emod_of_nonneg ha.1
  have tb : b.tmod 4294967296 = b % 4294967296 := Int.tmod_eq_emod_of_nonneg hb.1
  have oa := or_hi (a % 4294967296) (by omega) (by omega)
  have ob := or_hi (b % 4294967296) (by omega) (by omega)
  have xa := xor_top (a % 4294967296) (by omega) (by omega)
  have xb := xor_top (b % 4294967296) (by omega) (by omega)
  have xa2 := xor_top (a % 4294967296 + 18446744069414584320) (by omega) (by omega)
  have xb2 := xor_top (b % 4294967296 + 18446744069414584320) (by omega) (by omega)
  have xa3 := xor_top a ha.1 ha.2
  have xb3 := xor_top b hb.1 hb.2
  have wa := w_i32 a
  have wb := w_i32 b
  have va := w_i64 a
  have vb := w_i64 b
  simp only [ta, tb, oa, w_u64] at h0 h1 h2 h3 h4 h5 h6 h7 h8
  try simp (disch := omega) only [Int.tmod_eq_emod_of_nonneg] at h0 h1 h2 h3 h4 h5 h6 h7 h8
  omega
theorem exc6_1 (i : Nat → Int) (hh : Holds i [((.eq (.conv .u64 (.conv .i32 (.var 1 0 18446744073709551615))) (.ar .or .u64 (.ar .rem .u64 (.var 1 0 18446744073709551615) (.lit 4294967296)) (.lit 18446744069414584320))), false), ((.lt (.ar .rem .u64 (.var 2 0 18446744073709551615) (.lit 4294967296)) (.lit 2147483648)), true), ((.lt (.ar .rem .u64 (.var 1 0 18446744073709551615) (.lit 4294967296)) (.lit 2147483648)), false), ((.lt (.var 0 0 255) (.lit 73)), true), ((.lt (.var 0 0 255) (.lit 75)), true), ((.lt (.var 0 0 255) (.lit 72)), false), ((.lt (.var 0 0 255) (.lit 78)), true), ((.lt (.var 0 0 255) (.lit 89)), true), ((.lt (.var 0 0 255) (.lit 67)), false)]) : False := by
  have h0 := hh _ _ (.head _)
  have h1 := hh _ _ (.tail _ (.head _))
  have h2 := hh _ _ (.tail _ (.tail _ (.head _)))
  have h3 := hh _ _ (.tail _ (.tail _ (.tail _ (.head _))))
  have h4 := hh _ _ (.tail _ (.tail _ (.tail _ (.tail _ (.head _)))))
  have h5 := hh _ _ (.tail _ (.tail _ (.tail _ (.tail _ (.tail _ (.head _))))))
  have h6 := hh _ _ (.tail _ (.tail _ (.tail _ (.tail _ (.tail _ (.tail _ (.head _)))))))
  have h7 := hh _ _ (.tail _ (.tail _ (.tail _ (.tail _ (.tail _ (.tail _ (.tail _ (.head _))))))))
  have h8 := hh _ _ (.tail _ (.tail _ (.tail _ (.tail _ (.tail _ (.tail _ (.tail _ (.tail _ (.head _)))))))))
  clear hh
  simp only [N.den, aRem, true_iff, Bool.false_eq_true, false_iff, bI_ne, ieq_iff, ilt_iff] at h0 h1 h2 h3 h4 h5 h6 h7 h8
  generalize hA0 : max 0 (min 18446744073709551615 (i 1)) = a at *
  generalize hB0 : max 0 (min 18446744073709551615 (i 2)) = b at *
  generalize max 0 (min 255 (i 0)) = c at *
  have ha : 0 ≤ a ∧ a ≤ 18446744073709551615 := by omega
  have hb : 0 ≤ b ∧ b ≤ 18446744073709551615 := by omega
  clear hA0 hB0
  have ta : a.tmod 4294967296 = a % 4294967296 := Int.tmod_eq_emod_of_nonneg ha.1
  have tb : b.tmod 4294967296 = b % 4294967296 := Int.tmod_eq_emod_of_nonneg hb.1
  have oa := or_hi (a % 4294967296) (by omega) (by omega)
  have ob := or_hi (b % 4294967296) (by omega) (by omega)
  have xa := xor_top (a % 4294967296) (by omega) (by omega)
  have xb := xor_top (b % 4294967296) (by omega) (by omega)
  have xa2 := xor_top (a % 4294967296 + 18446744069414584320) (by omega) (by omega)
  have xb2 := xor_top (b % 4294967296 + 18446744069414584320) (by omega) (by omega)
  have xa3 := xor_top a ha.1 ha.2
  have xb3 := xor_top b hb.1 hb.2
  have wa := w_i32 a
  have wb := w_i32 b
  have va := w_i64 a
  have vb := w_i64 b
  simp only [ta, tb, oa, w_u64] at h0 h1 h2 h3 h4 h5 h6 h7 h8
  try simp (disch := omega) only [Int.tmod_eq_emod_of_nonneg] at h0 h1 h2 h3 h4 h5 h6 h7 h8
  omega
theorem exc6_2 (i : Nat → Int) (hh : Holds i [((.eq (.conv .u64 (.conv .i32 (.var 1 0 18446744073709551615))) (.ar .rem .u64 (.var 1 0 18446744073709551615) (.lit 4294967296))), false), ((.lt (.ar .rem .u64 (.var 2 0 18446744073709551615) (.lit 4294967296)) (.lit 2147483648)), false), ((.lt (.ar .rem .u64 (.var 1 0 18446744073709551615) (.lit 4294967296)) (.lit 2147483648)), true), ((.lt (.var 0 0 255) (.lit 73)), true), ((.lt (.var 0 0 255) (.lit 75)), true), ((.lt (.var 0 0 255) (.lit 72)), false), ((.lt (.var 0 0 255) (.lit 78)), true), ((.lt (.var 0 0 255) (.lit 89)), true), ((.lt (.var 0 0 255) (.lit 67)), false)]) : False := by
  have h0 := hh _ _ (.head _)
  have h1 := hh _ _ (.tail _ (.head _))
  have h2 := hh _ _ (.tail _ (.tail _ (.head _)))
  have h3 := hh _ _ (.tail _ (.tail _ (.tail _ (.head _))))
  have h4 := hh _ _ (.tail _ (.tail _ (.tail _ (.tail _ (.head _)))))
  have h5 := hh _ _ (.tail _ (.tail _ (.tail _ (.tail _ (.tail _ (.head _))))))
  have h6 := hh _ _ (.tail _ (.tail _ (.tail _ (.tail _ (.tail _ (.tail _ (.head _)))))))
  have h7 := hh _ _ (.tail _ (.tail _ (.tail _ (.tail _ (.tail _ (.tail _ (.tail _ (.head _))))))))
  have h8 := hh _ _ (.tail _ (.tail _ (.tail _ (.tail _ (.tail _ (.tail _ (.tail _ (.tail _ (.head _)))))))))
  clear hh
  simp only [N.den, aRem, true_iff, Bool.false_eq_true, false_iff, bI_ne, ieq_iff, ilt_iff] at h0 h1 h2 h3 h4 h5 h6 h7 h8
  generalize hA0 : max 0 (min 18446744073709551615 (i 1)) = a at *
  generalize hB0 : max 0 (min 18446744073709551615 (i 2)) = b at *
  generalize max 0 (min 255 (i 0)) = c at *
  have ha : 0 ≤ a ∧ a ≤ 18446744073709551615 := by omega
  have hb : 0 ≤ b ∧ b ≤ 18446744073709551615 := by omega
  clear hA0 hB0
  have ta : a.tmod 4294967296 = a % 4294967296 := Int.tmod_eq_emod_of_nonneg ha.1
  have tb : b.tmod 4294967296 = b % 4294967296 := Int.tmod_eq_emod_of_nonneg hb.1
  have oa := or_hi (a % 4294967296) (by omega) (by omega)
  have ob := or_hi (b % 4294967296) (by omega) (by omega)
  have xa := xor_top (a % 4294967296) (by omega) (by omega)
  have xb := xor_top (b % 4294967296) (by omega) (by omega)
  have xa2 := xor_top (a % 4294967296 + 18446744069414584320) (by omega) (by omega)
  have xb2 := xor_top (b % 4294967296 + 18446744069414584320) (by omega) (by omega)
  have xa3 := xor_top a ha.1 ha.2
  have xb3 := xor_top b hb.1 hb.2
  have wa := w_i32 a
  have wb := w_i32 b
  have va := w_i64 a
  have vb := w_i64 b
  simp only [ta, tb, w_u64] at h0 h1 h2 h3 h4 h5 h6 h7 h8
  try simp (disch := omega) only [Int.tmod_eq_emod_of_nonneg] at h0 h1 h2 h3 h4 h5 h6 h7 h8
  omega
theorem exc6_3 (i : Nat → Int) (hh : Holds i [((.eq (.conv .u64 (.conv .i32 (.var 1 0 18446744073709551615))) (.ar .rem .u64 (.var 1 0 18446744073709551615) (.lit 4294967296))), false), ((.lt (.ar .rem .u64 (.var 2 0 18446744073709551615) (.lit 4294967296)) (.lit 2147483648)), true), ((.lt (.ar .rem .u64 (.var 1 0 18446744073709551615) (.lit 4294967296)) (.lit 2147483648)), true), ((.lt (.var 0 0 255) (.lit 73)), true), ((.lt (.var 0 0 255) (.lit 75)), true), ((.lt (.var 0 0 255) (.lit 72)), false), ((.lt (.var 0 0 255) (.lit 78)), true), ((.lt (.var 0 0 255) (.lit 89)), true), ((.lt (.var 0 0 255) (.lit 67)), false)]) : False := by
  have h0 := hh _ _ (.head _)
  have h1 := hh _ _ (.tail _ (.head _))
  have h2 := hh _ _ (.tail _ (.tail _ (.head _)))
  have h3 := hh _ _ (.tail _ (.tail _ (.tail _ (.head _))))
  have h4 := hh _ _ (.tail _ (.tail _ (.tail _ (.tail _ (.head _)))))
  have h5 := hh _ _ (.tail _ (.tail _ (.tail _ (.tail _ (.tail _ (.head _))))))
  have h6 := hh _ _ (.tail _ (.tail _ (.tail _ (.tail _ (.tail _ (.tail _ (.head _)))))))
  have h7 := hh _ _ (.tail _ (.tail _ (.tail _ (.tail _ (.tail _ (.tail _ (.tail _ (.head _))))))))
  have h8 := hh _ _ (.tail _ (.tail _ (.tail _ (.tail _ (.tail _ (.tail _ (.tail _ (.tail _ (.head _)))))))))
  clear hh
  simp only [N.den, aRem, true_iff, Bool.false_eq_true, false_iff, bI_ne, ieq_iff, ilt_iff] at h0 h1 h2 h3 h4 h5 h6 h7 h8
  generalize hA0 : max 0 (min 18446744073709551615 (i 1)) = a at *
  generalize hB0 : max 0 (min 18446744073709551615 (i 2)) = b at *
  generalize max 0 (min 255 (i 0)) = c at *
  have ha : 0 ≤ a ∧ a ≤ 18446744073709551615 := by omega
  have hb : 0 ≤ b ∧ b ≤ 18446744073709551615 := by omega
  clear hA0 hB0
  have ta : a.tmod 4294967296 = a % 4294967296 := Int.tmod_eq_emod_of_nonneg ha.1
  have tb : b.tmod 4294967296 = b % 4294967296 := Int.tmod_eq_emod_of_nonneg hb.1
  have oa := or_hi (a % 4294967296) (by omega) (by omega)
  have ob := or_hi (b % 4294967296) (by omega) (by omega)
  have xa := xor_top (a % 4294967296) (by omega) (by omega)
  have xb := xor_top (b % 4294967296) (by omega) (by omega)
  have xa2 := xor_top (a % 4294967296 + 18446744069414584320) (by omega) (by omega)
  have xb2 := xor_top (b % 4294967296 + 18446744069414584320) (by omega) (by omega)
  have xa3 := xor_top a ha.1 ha.2
  have xb3 := xor_top b hb.1 hb.2
  have wa := w_i32 a
  have wb := w_i32 b
  have va := w_i64 a
  have vb := w_i64 b
  simp only [ta, tb, w_u64] at h0 h1 h2 h3 h4 h5 h6 h7 h8
  try simp (disch := omega) only [Int.tmod_eq_emod_of_nonneg] at h0 h1 h2 h3 h4 h5 h6 h7 h8
  omega
theorem exc6_no : ∀ q ∈ exc6, ∀ i, ¬ Holds i q :=
  List.forall_mem_cons.2 ⟨exc6_0, List.forall_mem_cons.2 ⟨exc6_1, List.forall_mem_cons.2 ⟨exc6_2, List.forall_mem_cons.2 ⟨exc6_3, (fun p h => by cases h)⟩⟩⟩⟩
theorem exc7_0 (i : Nat → Int) (hh : Holds i [((.eq (.conv .u64 (.conv .i32 (.var 1 0 18446744073709551615))) (.ar .or .u64 (.ar .rem .u64 (.var 1 0 18446744073709551615) (.lit 4294967296)) (.lit 18446744069414584320))), false), ((.lt (.ar .rem .u64 (.var 2 0 18446744073709551615) (.lit 4294967296)) (.lit 2147483648)), false), ((.lt (.ar .rem .u64 (.var 1 0 18446744073709551615) (.lit 4294967296)) (.lit 2147483648)), false), ((.lt (.var 0 0 255) (.lit 74)), true), ((.lt (.var 0 0 255) (.lit 73)), false), ((.lt (.var 0 0 255) (.lit 75)), true), ((.lt (.var 0 0 255) (.lit 72)), false), ((.lt (.var 0 0 255) (.lit 78)), true), ((.lt (.var 0 0 255) (.lit 89)), true), ((.lt (.var 0 0 255) (.lit 67)), false)]) : False := by
  have h0 := hh _ _ (.head _)
  have h1 := hh _ _ (.tail _ (.head _))
  have h2 := hh _ _ (.tail _ (.tail _ (.head _)))
  have h3 := hh _ _ (.tail _ (.tail _ (.tail _ (.head _))))
  have h4 := hh _ _ (.tail _ (.tail _ (.tail _ (.tail _ (.head _)))))
  have h5 := hh _ _ (.tail _ (.tail _ (.tail _ (.tail _ (.tail _ (.head _))))))
  have h6 := hh _ _ (.tail _ (.tail _ (.tail _ (.tail _ (.tail _ (.tail _ (.head _)))))))
  have h7 := hh _ _ (.tail _ (.tail _ (.tail _ (.tail _ (.tail _ (.tail _ (.tail _ (.head _))))))))
  have h8 := hh _ _ (.tail _ (.tail _ (.tail _ (.tail _ (.tail _ (.tail _ (.tail _ (.tail _ (.head _)))))))))
  have h9 := hh _ _ (.tail _ (.tail _ (.tail _ (.tail _ (.tail _ (.tail _ (.tail _ (.tail _ (.tail _ (.head _))))))))))
  clear hh
  simp only [N.den, aRem, true_iff, Bool.false_eq_true, false_iff, bI_ne, ieq_iff, ilt_iff] at h0 h1 h2 h3 h4 h5 h6 h7 h8 h9
  generalize hA0 : max 0 (min 18446744073709551615 (i 1)) = a at *
  generalize hB0 : max 0 (min 18446744073709551615 (i 2)) = b at *
  generalize max 0 (min 255 (i 0)) = c at *
  have ha : 0 ≤ a ∧ a ≤ 18446744073709551615 := by omega
  have hb : 0 ≤ b ∧ b ≤ 18446744073709551615 := by omega
  clear hA0 hB0
  have ta : a.tmod 4294967296 = a % 4294967296 := Int.tmod_eq_emod_of_nonneg ha.1
  have tb : b.tmod 4294967296 = b % 4294967296 := Int.tmod_eq_emod_of_nonneg hb.1
  have oa := or_hi (a % 4294967296) (by omega) (by omega)
  have ob := or_hi (b % 4294967296) (by omega) (by omega)
  have xa := xor_top (a % 4294967296) (by omega) (by omega)
  have xb := xor_top (b % 4294967296) (by omega) (by omega)
  have xa2 := xor_top (a % 4294967296 + 18446744069414584320) (by omega) (by omega)
  have xb2 := xor_top (b % 4294967296 + 18446744069414584320) (by omega) (by omega)
  have xa3 := xor_top a ha.1 ha.2
  have xb3 := xor_top b hb.1 hb.2
  have wa := w_i32 a
  have wb := w_i32 b
  have va := w_i64 a
  have vb := w_i64 b
  simp only [ta, tb, oa, w_u64] at h0 h1 h2 h3 h4 h5 h6 h7 h8 h9
  try simp (disch := omega) only [Int.tmod_eq_emod_of_nonneg] at h0 h1 h2 h3 h4 h5 h6 h7 h8 h9
  omega
theorem exc7_1 (i : Nat → Int) (hh : Holds i [((.eq (.conv .u64 (.conv .i32 (.var 1 0 18446744073709551615))) (.ar .or .u64 (.ar .rem .u64 (.var 1 0 18446744073709551615) (.lit 4294967296)) (.lit 18446744069414584320))), false), ((.lt (.ar .rem .u64 (.var 2 0 18446744073709551615) (.lit 4294967296)) (.lit 2147483648)), true), ((.lt (.ar .rem .u64 (.var 1 0 18446744073709551615) (.lit 4294967296)) (.lit 2147483648)), false), ((.lt (.var 0 0 255) (.lit 74)), true), ((.lt (.var 0 0 255) (.lit 73)), false), ((.lt (.var 0 0 255) (.lit 75)), true), ((.lt (.var 0 0 255) (.lit 72)), false), ((.lt (.var 0 0 255) (.lit 78)), true), ((.lt (.var 0 0 255) (.lit 89)), true), ((.lt (.var 0 0 255) (.lit 67)), false)]) : False := by
  have h0 := hh _ _ (.head _)
  have h1 := hh _ _ (.tail _ (.head _))
  have h2 := hh _ _ (.tail _ (.tail _ (.head _)))
  have h3 := hh _ _ (.tail _ (.tail _ (.tail _ (.head _))))
  have h4 := hh _ _ (.tail _ (.tail _ (.tail _ (.tail _ (.head _)))))
  have h5 := hh _ _ (.tail _ (.tail _ (.tail _ (.tail _ (.tail _ (.head _))))))
  have h6 := hh _ _ (.tail _ (.tail _ (.tail _ (.tail _ (.tail _ (.tail _ (.head _)))))))
  have h7 := hh _ _ (.tail _ (.tail _ (.tail _ (.tail _ (.tail _ (.tail _ (.tail _ (.head _))))))))
  have h8 := hh _ _ (.tail _ (.tail _ (.tail _ (.tail _ (.tail _ (.tail _ (.tail _ (.tail _ (.head _)))))))))
  have h9 := hh _ _ (.tail _ (.tail _ (.tail _ (.tail _ (.tail _ (.tail _ (.tail _ (.tail _ (.tail _ (.head _))))))))))
  clear hh
  simp only [N.den, aRem, true_iff, Bool.false_eq_true, false_iff, bI_ne, ieq_iff, ilt_iff] at h0 h1 h2 h3 h4 h5 h6 h7 h8 h9
  generalize hA0 : max 0 (min 18446744073709551615 (i 1)) = a at *
  generalize hB0 : max 0 (min 18446744073709551615 (i 2)) = b at *
  generalize max 0 (min 255 (i 0)) = c at *
  have ha : 0 ≤ a ∧ a ≤ 18446744073709551615 := by omega
  have hb : 0 ≤ b ∧ b ≤ 18446744073709551615 := by omega
  clear hA0 hB0
  have ta : a.tmod 4294967296 = a % 4294967296 := Int.tmod_eq_emod_of_nonneg ha.1
  have tb : b.tmod 4294967296 = b % 4294967296 := Int.tmod_eq_emod_of_nonneg hb.1
  have oa := or_hi (a % 4294967296) (by omega) (by omega)
  have ob := or_hi (b % 4294967296) (by omega) (by omega)
  have xa := xor_top (a % 4294967296) (by omega) (by omega)
  have xb := xor_top (b % 4294967296) (by omega) (by omega)
  have xa2 := xor_top (a % 4294967296 + 18446744069414584320) (by omega) (by omega)
  have xb2 := xor_top (b % 4294967296 + 18446744069414584320) (by omega) (by omega)
  have xa3 := xor_top a ha.1 ha.2
  have xb3 := xor_top b hb.1 hb.2
  have wa := w_i32 a
  have wb := w_i32 b
  have va := w_i64 a
  have vb := w_i64 b
  simp only [ta, tb, oa, w_u64] at h0 h1 h2 h3 h4 h5 h6 h7 h8 h9
  try simp (disch := omega) only [Int.tmod_eq_emod_of_nonneg] at h0 h1 h2 h3 h4 h5 h6 h7 h8 h9
  omega
theorem exc7_2 (i : Nat → Int) (hh : Holds i [((.eq (.conv .u64 (.conv .i32 (.var 1 0 18446744073709551615))) (.ar .rem .u64 (.var 1 0 18446744073709551615) (.lit 4294967296))), false), ((.lt (.ar .rem .u64 (.var 2 0 18446744073709551615) (.lit 4294967296)) (.lit 2147483648)), false), ((.lt (.ar .rem .u64 (.var 1 0 18446744073709551615) (.lit 4294967296)) (.lit 2147483648)), true), ((.lt (.var 0 0 255) (.lit 74)), true), ((.lt (.var 0 0 255) (.lit 73)), false), ((.lt (.var 0 0 255) (.lit 75)), true), ((.lt (.var 0 0 255) (.lit 72)), false), ((.lt (.var 0 0 255) (.lit 78)), true), ((.lt (.var 0 0 255) (.lit 89)), true), ((.lt (.var 0 0 255) (.lit 67)), false)]) : False := by
  have h0 := hh _ _ (.head _)
  have h1 := hh _ _ (.tail _ (.head _))
  have h2 := hh _ _ (.tail _ (.tail _ (.head _)))
  have h3 := hh _ _ (.tail _ (.tail _ (.tail _ (.head _))))
  have h4 := hh _ _ (.tail _ (.tail _ (.tail _ (.tail _ (.head _)))))
  have h5 := hh _ _ (.tail _ (.tail _ (.tail _ (.tail _ (.tail _ (.head _))))))
  have h6 := hh _ _ (.tail _ (.tail _ (.tail _ (.tail _ (.tail _ (.tail _ (.head _)))))))
  have h7 := hh _ _ (.tail _ (.tail _ (.tail _ (.tail _ (.tail _ (.tail _ (.tail _ (.head _))))))))
  have h8 := hh _ _ (.tail _ (.tail _ (.tail _ (.tail _ (.tail _ (.tail _ (.tail _ (.tail _ (.head _)))))))))
  have h9 := hh _ _ (.tail _ (.tail _ (.tail _ (.tail _ (.tail _ (.tail _ (.tail _ (.tail _ (.tail _ (.head _))))))))))
  clear hh
  simp only [N.den, aRem, true_iff, Bool.false_eq_true, false_iff, bI_ne, ieq_iff, ilt_iff] at h0 h1 h2 h3 h4 h5 h6 h7 h8 h9
  generalize hA0 : max 0 (min 18446744073709551615 (i 1)) = a at *
  generalize hB0 : max 0 (min 18446744073709551615 (i 2)) = b at *
  generalize max 0 (min 255 (i 0)) = c at *
  have ha : 0 ≤ a ∧ a ≤ 18446744073709551615 := by omega
  have hb : 0 ≤ b ∧ b ≤ 18446744073709551615 := by omega
  clear hA0 hB0
  have ta : a.tmod 4294967296 = a % 4294967296 := Int.tmod_eq_emod_of_nonneg ha.1
  have tb : b.tmod 4294967296 = b % 4294967296 := Int.tmod_eq_emod_of_nonneg hb.1
  have oa := or_hi (a % 4294967296) (by omega) (by omega)
  have ob := or_hi (b % 4294967296) (by omega) (by omega)
  have xa := xor_top (a % 4294967296) (by omega) (by omega)
  have xb := xor_top (b % 4294967296) (by omega) (by omega)
  have xa2 := xor_top (a % 4294967296 + 18446744069414584320) (by omega) (by omega)
  have xb2 := xor_top (b % 4294967296 + 18446744069414584320) (by omega) (by omega)
  have xa3 := xor_top a ha.1 ha.2
  have xb3 := xor_top b hb.1 hb.2
  have wa := w_i32 a
  have wb := w_i32 b
  have va := w_i64 a
  have vb := w_i64 b
  simp only [ta, tb, w_u64] at h0 h1 h2 h3 h4 h5 h6 h7 h8 h9
  try simp (disch := omega) only [Int.tmod_eq_emod_of_nonneg] at h0 h1 h2 h3 h4 h5 h6 h7 h8 h9
  omega
theorem exc7_3 (i : Nat → Int) (hh : Holds i [((.eq (.conv .u64 (.conv .i32 (.var 1 0 18446744073709551615))) (.ar .rem .u64 (.var 1 0 18446744073709551615) (.lit 4294967296))), false), ((.lt (.ar .rem .u64 (.var 2 0 18446744073709551615) (.lit 4294967296)) (.lit 2147483648)), true), ((.lt (.ar .rem .u64 (.var 1 0 18446744073709551615) (.lit 4294967296)) (.lit 2147483648)), true), ((.lt (.var 0 0 255) (.lit 74)), true), ((.lt (.var 0 0 255) (.lit 73)), false), ((.lt (.var 0 0 255) (.lit 75)), true), ((.lt (.var 0 0 255) (.lit 72)), false), ((.lt (.var 0 0 255) (.lit 78)), true), ((.lt (.var 0 0 255) (.lit 89)), true), ((.lt (.var 0 0 255) (.lit 67)), false)]) : False := by
  have h0 := hh _ _ (.head _)
  have h1 := hh _ _ (.tail _ (.head _))
  have h2 := hh _ _ (.tail _ (.tail _ (.head _)))
  have h3 := hh _ _ (.tail _ (.tail _ (.tail _ (.head _))))
  have h4 := hh _ _ (.tail _ (.tail _ (.tail _ (.tail _ (.head _)))))
  have h5 := hh _ _ (.tail _ (.tail _ (.tail _ (.tail _ (.tail _ (.head _))))))
  have h6 := hh _ _ (.tail _ (.tail _ (.tail _ (.tail _ (.tail _ (.tail _ (.head _)))))))
  have h7 := hh _ _ (.tail _ (.tail _ (.tail _ (.tail _ (.tail _ (.tail _ (.tail _ (.head _))))))))
  have h8 := hh _ _ (.tail _ (.tail _ (.tail _ (.tail _ (.tail _ (.tail _ (.tail _ (.tail _ (.head _)))))))))
  have h9 := hh _ _ (.tail _ (.tail _ (.tail _ (.tail _ (.tail _ (.tail _ (.tail _ (.tail _ (.tail _ (.head _))))))))))
  clear hh
  simp only [N.den, aRem, true_iff, Bool.false_eq_true, false_iff, bI_ne, ieq_iff, ilt_iff] at h0 h1 h2 h3 h4 h5 h6 h7 h8 h9
  generalize hA0 : max 0 (min 18446744073709551615 (i 1)) = a at *
  generalize hB0 : max 0 (min 18446744073709551615 (i 2)) = b at *
  generalize max 0 (min 255 (i 0)) = c at *
  have ha : 0 ≤ a ∧ a ≤ 18446744073709551615 := by omega
  have hb : 0 ≤ b ∧ b ≤ 18446744073709551615 := by omega
  clear hA0 hB0
  have ta : a.tmod 4294967296 = a % 4294967296 := Int.tmod_eq_emod_of_nonneg ha.1
  have tb : b.tmod 4294967296 = b % 4294967296 := Int.tmod_eq_emod_of_nonneg hb.1
  have oa := or_hi (a % 4294967296) (by omega) (by omega)
  have ob := or_hi (b % 4294967296) (by omega) (by omega)
  have xa := xor_top (a % 4294967296) (by omega) (by omega)
  have xb := xor_top (b % 4294967296) (by omega) (by omega)
  have xa2 := xor_top (a % 4294967296 + 18446744069414584320) (by omega) (by omega)
  have xb2 := xor_top (b % 4294967296 + 18446744069414584320) (by omega) (by omega)
  have xa3 := xor_top a ha.1 ha.2
  have xb3 := xor_top b hb.1 hb.2
  have wa := w_i32 a
  have wb := w_i32 b
  have va := w_i64 a
  have vb := w_i64 b
  simp only [ta, tb, w_u64] at h0 h1 h2 h3 h4 h5 h6 h7 h8 h9
  try simp (disch := omega) only [Int.tmod_eq_emod_of_nonneg] at h0 h1 h2 h3 h4 h5 h6 h7 h8 h9
  omega
theorem exc7_no : ∀ q ∈ exc7, ∀ i, ¬ Holds i q :=
  List.forall_mem_cons.2 ⟨exc7_0, List.forall_mem_cons.2 ⟨exc7_1, List.forall_mem_cons.2 ⟨exc7_2, List.forall_mem_cons.2 ⟨exc7_3, (fun p h => by cases h)⟩⟩⟩⟩
theorem exc8_0 (i : Nat → Int) (hh : Holds i [((.eq (.conv .u64 (.conv .i32 (.var 1 0 18446744073709551615))) (.ar .or .u64 (.ar .rem .u64 (.var 1 0 18446744073709551615) (.lit 4294967296)) (.lit 18446744069414584320))), false), ((.eq (.conv .u32 (.var 2 0 18446744073709551615)) (.ar .rem .u64 (.ar .or .u64 (.ar .rem .u64 (.var 1 0 18446744073709551615) (.lit 4294967296)) (.lit 18446744069414584320)) (.lit 4294967296))), true), ((.lt (.ar .xor .u64 (.ar .or .u64 (.ar .rem .u64 (.var 1 0 18446744073709551615) (.lit 4294967296)) (.lit 18446744069414584320)) (.lit 9223372036854775808)) (.ar .xor .u64 (.ar .or .u64 (.ar .rem .u64 (.var 2 0 18446744073709551615) (.lit 4294967296)) (.lit 18446744069414584320)) (.lit 9223372036854775808))), true), ((.lt (.ar .rem .u64 (.var 2 0 18446744073709551615) (.lit 4294967296)) (.lit 2147483648)), false), ((.lt (.ar .rem .u64 (.var 1 0 18446744073709551615) (.lit 4294967296)) (.lit 2147483648)), false), ((.lt (.conv .i32 (.var 2 0 18446744073709551615)) (.conv .i32 (.var 1 0 18446744073709551615))), true), ((.lt (.var 0 0 255) (.lit 74)), false), ((.lt (.var 0 0 255) (.lit 73)), false), ((.lt (.var 0 0 255) (.lit 75)), true), ((.lt (.var 0 0 255) (.lit 72)), false), ((.lt (.var 0 0 255) (.lit 78)), true), ((.lt (.var 0 0 255) (.lit 89)), true), ((.lt (.var 0 0 255) (.lit 67)), false)]) : False := by
  have h0 := hh _ _ (.head _)
  have h1 := hh _ _ (.tail _ (.head _))
  have h2 := hh _ _ (.tail _ (.tail _ (.head _)))
  have h3 := hh _ _ (.tail _ (.tail _ (.tail _ (.head _))))
  have h4 := hh _ _ (.tail _ (.tail _ (.tail _ (.tail _ (.head _)))))
  have h5 := hh _ _ (.tail _ (.tail _ (.tail _ (.tail _ (.tail _ (.head _))))))
  have h6 := hh _ _ (.tail _ (.tail _ (.tail _ (.tail _ (.tail _ (.tail _ (.head _)))))))
  have h7 := hh _ _ (.tail _ (.tail _ (.tail _ (.tail _ (.tail _ (.tail _ (.tail _ (.head _))))))))
  have h8 := hh _ _ (.tail _ (.tail _ (.tail _ (.tail _ (.tail _ (.tail _ (.tail _ (.tail _ (.head _)))))))))
  have h9 := hh _ _ (.tail _ (.tail _ (.tail _ (.tail _ (.tail _ (.tail _ (.tail _ (.tail _ (.tail _ (.head _))))))))))
  have h10 := hh _ _ (.tail _ (.tail _ (.tail _ (.tail _ (.tail _ (.tail _ (.tail _ (.tail _ (.tail _ (.tail _ (.head _)))))))))))
  have h11 := hh _ _ (.tail _ (.tail _ (.tail _ (.tail _ (.tail _ (.tail _ (.tail _ (.tail _ (.tail _ (.tail _ (.tail _ (.head _))))))))))))
  have h12 := hh _ _ (.tail _ (.tail _ (.tail _ (.tail _ (.tail _ (.tail _ (.tail _ (.tail _ (.tail _ (.tail _ (.tail _ (.tail _ (.head _)))))))))))))
  clear hh
  simp only [N.den, aRem, true_iff, Bool.false_eq_true, false_iff, bI_ne, ieq_iff, ilt_iff] at h0 h1 h2 h3 h4 h5 h6 h7 h8 h9 h10 h11 h12
  generalize hA0 : max 0 (min 18446744073709551615 (i 1)) = a at *
  generalize hB0 : max 0 (min 18446744073709551615 (i 2)) = b at *
  generalize max 0 (min 255 (i 0)) = c at *
  have ha : 0 ≤ a ∧ a ≤ 18446744073709551615 := by omega
  have hb : 0 ≤ b ∧ b ≤ 18446744073709551615 := by omega
  clear hA0 hB0
  have ta : a.tmod 4294967296 = a % 4294967296 := Int.tmod_eq_emod_of_nonneg ha.1
  have tb : b.tmod 4294967296 = b % 4294967296 := Int.tmod_eq_emod_of_nonneg hb.1
  have oa := or_hi (a % 4294967296) (by omega) (by omega)
  have ob := or_hi (b % 4294967296) (by omega) (by omega)
  have xa := xor_top (a % 4294967296) (by omega) (by omega)
  have xb := xor_top (b % 4294967296) (by omega) (by omega)
  have xa2 := xor_top (a % 4294967296 + 18446744069414584320) (by omega) (by omega)
  have xb2 := xor_top (b % 4294967296 + 18446744069414584320) (by omega) (by omega)
  have xa3 := xor_top a ha.1 ha.2
  have xb3 := xor_top b hb.1 hb.2
  have wa := w_i32 a
  have wb := w_i32 b
  have va := w_i64 a
  have vb := w_i64 b
  simp only [ta, tb, oa, ob, xa2, xb2, w_u64, w_u32] at h0 h1 h2 h3 h4 h5 h6 h7 h8 h9 h10 h11 h12
  try simp (disch := omega) only [Int.tmod_eq_emod_of_nonneg] at h0 h1 h2 h3 h4 h5 h6 h7 h8 h9 h10 h11 h12
  omega
theorem exc8_1 (i : Nat → Int) (hh : Holds i [((.eq (.conv .u32 (.var 2 0 18446744073709551615)) (.ar .rem .u64 (.ar .or .u64 (.ar .rem .u64 (.var 1 0 18446744073709551615) (.lit 4294967296)) (.lit 18446744069414584320)) (.lit 4294967296))), false), ((.lt (.ar .xor .u64 (.ar .or .u64 (.ar .rem .u64 (.var 1 0 18446744073709551615) (.lit 4294967296)) (.lit 18446744069414584320)) (.lit 9223372036854775808)) (.ar .xor .u64 (.ar .or .u64 (.ar .rem .u64 (.var 2 0 18446744073709551615) (.lit 4294967296)) (.lit 18446744069414584320)) (.lit 9223372036854775808))), true), ((.lt (.ar .rem .u64 (.var 2 0 18446744073709551615) (.lit 4294967296)) (.lit 2147483648)), false), ((.lt (.ar .rem .u64 (.var 1 0 18446744073709551615) (.lit 4294967296)) (.lit 2147483648)), false), ((.lt (.conv .i32 (.var 2 0 18446744073709551615)) (.conv .i32 (.var 1 0 18446744073709551615))), true), ((.lt (.var 0 0 255) (.lit 74)), false), ((.lt (.var 0 0 255) (.lit 73)), false), ((.lt (.var 0 0 255) (.lit 75)), true), ((.lt (.var 0 0 255) (.lit 72)), false), ((.lt (.var 0 0 255) (.lit 78)), true), ((.lt (.var 0 0 255) (.lit 89)), true), ((.lt (.var 0 0 255) (.lit 67)), false)]) : False := by
  have h0 := hh _ _ (.head _)
  have h1 := hh _ _ (.tail _ (.head _))
  have h2 := hh _ _ (.tail _ (.tail _ (.head _)))
  have h3 := hh _ _ (.tail _ (.tail _ (.tail _ (.head _))))
  have h4 := hh _ _ (.tail _ (.tail _ (.tail _ (.tail _ (.head _)))))
  have h5 := hh _ _ (.tail _ (.tail _ (.tail _ (.tail _ (.tail _ (.head _))))))
  have h6 := hh _ _ (.tail _ (.tail _ (.tail _ (.tail _ (.tail _ (.tail _ (.head _)))))))
  have h7 := hh _ _ (.tail _ (.tail _ (.tail _ (.tail _ (.tail _ (.tail _ (.tail _ (.head _))))))))
  have h8 := hh _ _ (.tail _ (.tail _ (.tail _ (.tail _ (.tail _ (.tail _ (.tail _ (.tail _ (.head _)))))))))
  have h9 := hh _ _ (.tail _ (.tail _ (.tail _ (.tail _ (.tail _ (.tail _ (.tail _ (.tail _ (.tail _ (.head _))))))))))
  have h10 := hh _ _ (.tail _ (.tail _ (.tail _ (.tail _ (.tail _ (.tail _ (.tail _ (.tail _ (.tail _ (.tail _ (.head _)))))))))))
  have h11 := hh _ _ (.tail _ (.tail _ (.tail _ (.tail _ (.tail _ (.tail _ (.tail _ (.tail _ (.tail _ (.tail _ (.tail _ (.head _))))))))))))
  clear hh
  simp only [N.den, aRem, true_iff, Bool.false_eq_true, false_iff, bI_ne, ieq_iff, ilt_iff] at h0 h1 h2 h3 h4 h5 h6 h7 h8 h9 h10 h11
  generalize hA0 : max 0 (min 18446744073709551615 (i 1)) = a at *
  generalize hB0 : max 0 (min 18446744073709551615 (i 2)) = b at *
  generalize max 0 (min 255 (i 0)) = c at *
  have ha : 0 ≤ a ∧ a ≤ 18446744073709551615 := by omega
  have hb : 0 ≤ b ∧ b ≤ 18446744073709551615 := by omega
  clear hA0 hB0
  have ta : a.tmod 4294967296 = a % 4294967296 := Int.tmod_eq_emod_of_nonneg ha.1
  have tb : b.tmod 4294967296 = b % 4294967296 := Int.tmod_eq_emod_of_nonneg hb.1
  have oa := or_hi (a % 4294967296) (by omega) (by omega)
  have ob := or_hi (b % 4294967296) (by omega) (by omega)
  have xa := xor_top (a % 4294967296) (by omega) (by omega)
  have xb := xor_top (b % 4294967296) (by omega) (by omega)
  have xa2 := xor_top (a % 4294967296 + 18446744069414584320) (by omega) (by omega)
  have xb2 := xor_top (b % 4294967296 + 18446744069414584320) (by omega) (by omega)
  have xa3 := xor_top a ha.1 ha.2
  have xb3 := xor_top b hb.1 hb.2
  have wa := w_i32 a
  have wb := w_i32 b
  have va := w_i64 a
  have vb := w_i64 b
  simp only [ta, tb, oa, ob, xa2, xb2, w_u32] at h0 h1 h2 h3 h4 h5 h6 h7 h8 h9 h10 h11
  try simp (disch := omega) only [Int.tmod_eq_emod_of_nonneg] at h0 h1 h2 h3 h4 h5 h6 h7 h8 h9 h10 h11
  omega
theorem exc8_2 (i : Nat → Int) (hh : Holds i [((.eq (.conv .u64 (.conv .i32 (.var 1 0 18446744073709551615))) (.ar .or .u64 (.ar .rem .u64 (.var 1 0 18446744073709551615) (.lit 4294967296)) (.lit 18446744069414584320))), false), ((.lt (.ar .xor .u64 (.ar .or .u64 (.ar .rem .u64 (.var 1 0 18446744073709551615) (.lit 4294967296)) (.lit 18446744069414584320)) (.lit 9223372036854775808)) (.ar .xor .u64 (.ar .or .u64 (.ar .rem .u64 (.var 2 0 18446744073709551615) (.lit 4294967296)) (.lit 18446744069414584320)) (.lit 9223372036854775808))), false), ((.lt (.ar .rem .u64 (.var 2 0 18446744073709551615) (.lit 4294967296)) (.lit 2147483648)), false), ((.lt (.ar .rem .u64 (.var 1 0 18446744073709551615) (.lit 4294967296)) (.lit 2147483648)), false), ((.lt (.conv .i32 (.var 2 0 18446744073709551615)) (.conv .i32 (.var 1 0 18446744073709551615))), true), ((.lt (.var 0 0 255) (.lit 74)), false), ((.lt (.var 0 0 255) (.lit 73)), false), ((.lt (.var 0 0 255) (.lit 75)), true), ((.lt (.var 0 0 255) (.lit 72)), false), ((.lt (.var 0 0 255) (.lit 78)), true), ((.lt (.var 0 0 255) (.lit 89)), true), ((.lt (.var 0 0 255) (.lit 67)), false)]) : False := by
  have h0 := hh _ _ (.head _)
  have h1 := hh _ _ (.tail _ (.head _))
  have h2 := hh _ _ (.tail _ (.tail _ (.head _)))
  have h3 := hh _ _ (.tail _ (.tail _ (.tail _ (.head _))))
  have h4 := hh _ _ (.tail _ (.tail _ (.tail _ (.tail _ (.head _)))))
  have h5 := hh _ _ (.tail _ (.tail _ (.tail _ (.tail _ (.tail _ (.head _))))))
  have h6 := hh _ _ (.tail _ (.tail _ (.tail _ (.tail _ (.tail _ (.tail _ (.head _)))))))
  have h7 := hh _ _ (.tail _ (.tail _ (.tail _ (.tail _ (.tail _ (.tail _ (.tail _ (.head _))))))))
  have h8 := hh _ _ (.tail _ (.tail _ (.tail _ (.tail _ (.tail _ (.tail _ (.tail _ (.tail _ (.head _)))))))))
  have h9 := hh _ _ (.tail _ (.tail _ (.tail _ (.tail _ (.tail _ (.tail _ (.tail _ (.tail _ (.tail _ (.head _))))))))))
  have h10 := hh _ _ (.tail _ (.tail _ (.tail _ (.tail _ (.tail _ (.tail _ (.tail _ (.tail _ (.tail _ (.tail _ (.head _)))))))))))
  have h11 := hh _ _ (.tail _ (.tail _ (.tail _ (.tail _ (.tail _ (.tail _ (.tail _ (.tail _ (.tail _ (.tail _ (.tail _ (.head _))))))))))))
  clear hh
  simp only [N.den, aRem, true_iff, Bool.false_eq_true, false_iff, bI_ne, ieq_iff, ilt_iff] at h0 h1 h2 h3 h4 h5 h6 h7 h8 h9 h10 h11
  generalize hA0 : max 0 (min 18446744073709551615 (i 1)) = a at *
  generalize hB0 : max 0 (min 18446744073709551615 (i 2)) = b at *
  generalize max 0 (min 255 (i 0)) = c at *
  have ha : 0 ≤ a ∧ a ≤ 18446744073709551615 := by omega
  have hb : 0 ≤ b ∧ b ≤ 18446744073709551615 := by omega
  clear hA0 hB0
  have ta : a.tmod 4294967296 = a % 4294967296 := Int.tmod_eq_emod_of_nonneg ha.1
  have tb : b.tmod 4294967296 = b % 4294967296 := Int.tmod_eq_emod_of_nonneg hb.1
  have oa := or_hi (a % 4294967296) (by omega) (by omega)
  have ob := or_hi (b % 4294967296) (by omega) (by omega)
  have xa := xor_top (a % 4294967296) (by omega) (by omega)
  have xb := xor_top (b % 4294967296) (by omega) (by omega)
  have xa2 := xor_top (a % 4294967296 + 18446744069414584320) (by omega) (by omega)
  have xb2 := xor_top (b % 4294967296 + 18446744069414584320) (by omega) (by omega)
  have xa3 := xor_top a ha.1 ha.2
  have xb3 := xor_top b hb.1 hb.2
  have wa := w_i32 a
  have wb := w_i32 b
  have va := w_i64 a
  have vb := w_i64 b
  simp only [ta, tb, oa, ob, xa2, xb2, w_u64] at h0 h1 h2 h3 h4 h5 h6 h7 h8 h9 h10 h11
  try simp (disch := omega) only [Int.tmod_eq_emod_of_nonneg] at h0 h1 h2 h3 h4 h5 h6 h7 h8 h9 h10 h11
  omega
theorem exc8_3 (i : Nat → Int) (hh : Holds i [((.eq (.conv .u64 (.conv .i32 (.var 1 0 18446744073709551615))) (.ar .or .u64 (.ar .rem .u64 (.var 1 0 18446744073709551615) (.lit 4294967296)) (.lit 18446744069414584320))), false), ((.eq (.conv .u32 (.var 2 0 18446744073709551615)) (.ar .rem .u64 (.ar .or .u64 (.ar .rem .u64 (.var 1 0 18446744073709551615) (.lit 4294967296)) (.lit 18446744069414584320)) (.lit 4294967296))), true), ((.lt (.ar .rem .u64 (.var 2 0 18446744073709551615) (.lit 4294967296)) (.lit 2147483648)), true), ((.lt (.ar .rem .u64 (.var 1 0 18446744073709551615) (.lit 4294967296)) (.lit 2147483648)), false), ((.lt (.conv .i32 (.var 2 0 18446744073709551615)) (.conv .i32 (.var 1 0 18446744073709551615))), true), ((.lt (.var 0 0 255) (.lit 74)), false), ((.lt (.var 0 0 255) (.lit 73)), false), ((.lt (.var 0 0 255) (.lit 75)), true), ((.lt (.var 0 0 255) (.lit 72)), false), ((.lt (.var 0 0 255) (.lit 78)), true), ((.lt (.var 0 0 255) (.lit 89)), true), ((.lt (.var 0 0 255) (.lit 67)), false)]) : False := by
  have h0 := hh _ _ (.head _)
  have h1 := hh _ _ (.tail _ (.head _))
  have h2 := hh _ _ (.tail _ (.tail _ (.head _)))
  have h3 := hh _ _ (.tail _ (.tail _ (.tail _ (.head _))))
  have h4 := hh _ _ (.tail _ (.tail _ (.tail _ (.tail _ (.head _)))))
  have h5 := hh _ _ (.tail _ (.tail _ (.tail _ (.tail _ (.tail _ (.head _))))))
  have h6 := hh _ _ (.tail _ (.tail _ (.tail _ (.tail _ (.tail _ (.tail _ (.head _)))))))
  have h7 := hh _ _ (.tail _ (.tail _ (.tail _ (.tail _ (.tail _ (.tail _ (.tail _ (.head _))))))))
  have h8 := hh _ _ (.tail _ (.tail _ (.tail _ (.tail _ (.tail _ (.tail _ (.tail _ (.tail _ (.head _)))))))))
  have h9 := hh _ _ (.tail _ (.tail _ (.tail _ (.tail _ (.tail _ (.tail _ (.tail _ (.tail _ (.tail _ (.head _))))))))))
  have h10 := hh _ _ (.tail _ (.tail _ (.tail _ (.tail _ (.tail _ (.tail _ (.tail _ (.tail _ (.tail _ (.tail _ (.head _)))))))))))
  have h11 := hh _ _ (.tail _ (.tail _ (.tail _ (.tail _ (.tail _ (.tail _ (.tail _ (.tail _ (.tail _ (.tail _ (.tail _ (.head _))))))))))))
  clear hh
  simp only [N.den, aRem, true_iff, Bool.false_eq_true, false_iff, bI_ne, ieq_iff, ilt_iff] at h0 h1 h2 h3 h4 h5 h6 h7 h8 h9 h10 h11
  generalize hA0 : max 0 (min 18446744073709551615 (i 1)) = a at *
  generalize hB0 : max 0 (min 18446744073709551615 (i 2)) = b at *
  generalize max 0 (min 255 (i 0)) = c at *
  have ha : 0 ≤ a ∧ a ≤ 18446744073709551615 := by omega
  have hb : 0 ≤ b ∧ b ≤ 18446744073709551615 := by omega
  clear hA0 hB0
  have ta : a.tmod 4294967296 = a % 4294967296 := Int.tmod_eq_emod_of_nonneg ha.1
  have tb : b.tmod 4294967296 = b % 4294967296 := Int.tmod_eq_emod_of_nonneg hb.1
  have oa := or_hi (a % 4294967296) (by omega) (by omega)
  have ob := or_hi (b % 4294967296) (by omega) (by omega)
  have xa := xor_top (a % 4294967296) (by omega) (by omega)
  have xb := xor_top (b % 4294967296) (by omega) (by omega)
  have xa2 := xor_top (a % 4294967296 + 18446744069414584320) (by omega) (by omega)
  have xb2 := xor_top (b % 4294967296 + 18446744069414584320) (by omega) (by omega)
  have xa3 := xor_top a ha.1 ha.2
  have xb3 := xor_top b hb.1 hb.2
  have wa := w_i32 a
  have wb := w_i32 b
  have va := w_i64 a
  have vb := w_i64 b
  simp only [ta, tb, oa, w_u64, w_u32] at h0 h1 h2 h3 h4 h5 h6 h7 h8 h9 h10 h11
  try simp (disch := omega) only [Int.tmod_eq_emod_of_nonneg] at h0 h1 h2 h3 h4 h5 h6 h7 h8 h9 h10 h11
  omega
theorem exc8_4 (i : Nat → Int) (hh : Holds i [((.eq (.conv .u32 (.var 2 0 18446744073709551615)) (.ar .rem .u64 (.ar .or .u64 (.ar .rem .u64 (.var 1 0 18446744073709551615) (.lit 4294967296)) (.lit 18446744069414584320)) (.lit 4294967296))), false), ((.lt (.ar .rem .u64 (.var 2 0 18446744073709551615) (.lit 4294967296)) (.lit 2147483648)), true), ((.lt (.ar .rem .u64 (.var 1 0 18446744073709551615) (.lit 4294967296)) (.lit 2147483648)), false), ((.lt (.conv .i32 (.var 2 0 18446744073709551615)) (.conv .i32 (.var 1 0 18446744073709551615))), true), ((.lt (.var 0 0 255) (.lit 74)), false), ((.lt (.var 0 0 255) (.lit 73)), false), ((.lt (.var 0 0 255) (.lit 75)), true), ((.lt (.var 0 0 255) (.lit 72)), false), ((.lt (.var 0 0 255) (.lit 78)), true), ((.lt (.var 0 0 255) (.lit 89)), true), ((.lt (.var 0 0 255) (.lit 67)), false)]) : False := by
  have h0 := hh _ _ (.head _)
  have h1 := hh _ _ (.tail _ (.head _))
  have h2 := hh _ _ (.tail _ (.tail _ (.head _)))
  have h3 := hh _ _ (.tail _ (.tail _ (.tail _ (.head _))))
  have h4 := hh _ _ (.tail _ (.tail _ (.tail _ (.tail _ (.head _)))))
  have h5 := hh _ _ (.tail _ (.tail _ (.tail _ (.tail _ (.tail _ (.head _))))))
  have h6 := hh _ _ (.tail _ (.tail _ (.tail _ (.tail _ (.tail _ (.tail _ (.head _)))))))
  have h7 := hh _ _ (.tail _ (.tail _ (.tail _ (.tail _ (.tail _ (.tail _ (.tail _ (.head _))))))))
  have h8 := hh _ _ (.tail _ (.tail _ (.tail _ (.tail _ (.tail _ (.tail _ (.tail _ (.tail _ (.head _)))))))))
  have h9 := hh _ _ (.tail _ (.tail _ (.tail _ (.tail _ (.tail _ (.tail _ (.tail _ (.tail _ (.tail _ (.head _))))))))))
  have h10 := hh _ _ (.tail _ (.tail _ (.tail _ (.tail _ (.tail _ (.tail _ (.tail _ (.tail _ (.tail _ (.tail _ (.head _)))))))))))
  clear hh
  simp only [N.den, aRem, true_iff, Bool.false_eq_true, false_iff, bI_ne, ieq_iff, ilt_iff] at h0 h1 h2 h3 h4 h5 h6 h7 h8 h9 h10
  generalize hA0 : max 0 (min 18446744073709551615 (i 1)) = a at *
  generalize hB0 : max 0 (min 18446744073709551615 (i 2)) = b at *
  generalize max 0 (min 255 (i 0)) = c at *
  have ha : 0 ≤ a ∧ a ≤ 18446744073709551615 := by omega
  have hb : 0 ≤ b ∧ b ≤ 18446744073709551615 := by omega
  clear hA0 hB0
  have ta : a.tmod 4294967296 = a % 4294967296 := Int.tmod_eq_emod_of_nonneg ha.1
  have tb : b.tmod 4294967296 = b % 4294967296 := Int.tmod_eq_emod_of_nonneg hb.1
  have oa := or_hi (a % 4294967296) (by omega) (by omega)
  have ob := or_hi (b % 4294967296) (by omega) (by omega)
  have xa := xor_top (a % 4294967296) (by omega) (by omega)
  have xb := xor_top (b % 4294967296) (by omega) (by omega)
  have xa2 := xor_top (a % 4294967296 + 18446744069414584320) (by omega) (by omega)
  have xb2 := xor_top (b % 4294967296 + 18446744069414584320) (by omega) (by omega)
  have xa3 := xor_top a ha.1 ha.2
  have xb3 := xor_top b hb.1 hb.2
  have wa := w_i32 a
  have wb := w_i32 b
  have va := w_i64 a
  have vb := w_i64 b
  simp only [ta, tb, oa, w_u32] at h0 h1 h2 h3 h4 h5 h6 h7 h8 h9 h10
  try simp (disch := omega) only [Int.tmod_eq_emod_of_nonneg] at h0 h1 h2 h3 h4 h5 h6 h7 h8 h9 h10
  omega
theorem exc8_5 (i : Nat → Int) (hh : Holds i [((.eq (.conv .u64 (.conv .i32 (.var 1 0 18446744073709551615))) (.ar .rem .u64 (.var 1 0 18446744073709551615) (.lit 4294967296))), false), ((.lt (.ar .rem .u64 (.var 2 0 18446744073709551615) (.lit 4294967296)) (.lit 2147483648)), false), ((.lt (.ar .rem .u64 (.var 1 0 18446744073709551615) (.lit 4294967296)) (.lit 2147483648)), true), ((.lt (.conv .i32 (.var 2 0 18446744073709551615)) (.conv .i32 (.var 1 0 18446744073709551615))), true), ((.lt (.var 0 0 255) (.lit 74)), false), ((.lt (.var 0 0 255) (.lit 73)), false), ((.lt (.var 0 0 255) (.lit 75)), true), ((.lt (.var 0 0 255) (.lit 72)), false), ((.lt (.var 0 0 255) (.lit 78)), true), ((.lt (.var 0 0 255) (.lit 89)), true), ((.lt (.var 0 0 255) (.lit 67)), false)]) : False := by
  have h0 := hh _ _ (.head _)
  have h1 := hh _ _ (.tail _ (.head _))
  have h2 := hh _ _ (.tail _ (.tail _ (.head _)))
  have h3 := hh _ _ (.tail _ (.tail _ (.tail _ (.head _))))
  have h4 := hh _ _ (.tail _ (.tail _ (.tail _ (.tail _ (.head _)))))
  have h5 := hh _ _ (.tail _ (.tail _ (.tail _ (.tail _ (.tail _ (.head _))))))
  have h6 := hh _ _ (.tail _ (.tail _ (.tail _ (.tail _ (.tail _ (.tail _ (.head _)))))))
  have h7 := hh _ _ (.tail _ (.tail _ (.tail _ (.tail _ (.tail _ (.tail _ (.tail _ (.head _))))))))
  have h8 := hh _ _ (.tail _ (.tail _ (.tail _ (.tail _ (.tail _ (.tail _ (.tail _ (.tail _ (.head _)))))))))
  have h9 := hh _ _ (.tail _ (.tail _ (.tail _ (.tail _ (.tail _ (.tail _ (.tail _ (.tail _ (.tail _ (.head _))))))))))
  have h10 := hh _ _ (.tail _ (.tail _ (.tail _ (.tail _ (.tail _ (.tail _ (.tail _ (.tail _ (.tail _ (.tail _ (.head _)))))))))))
  clear hh
  simp only [N.den, aRem, true_iff, Bool.false_eq_true, false_iff, bI_ne, ieq_iff, ilt_iff] at h0 h1 h2 h3 h4 h5 h6 h7 h8 h9 h10
  generalize hA0 : max 0 (min 18446744073709551615 (i 1)) = a at *
  generalize hB0 : max 0 (min 18446744073709551615 (i 2)) = b at *
  generalize max 0 (min 255 (i 0)) = c at *
  have ha : 0 ≤ a ∧ a ≤ 18446744073709551615 := by omega
  have hb : 0 ≤ b ∧ b ≤ 18446744073709551615 := by omega
  clear hA0 hB0
  have ta : a.tmod 4294967296 = a % 4294967296 := Int.tmod_eq_emod_of_nonneg ha.1
  have tb : b.tmod 4294967296 = b % 4294967296 := Int.tmod_eq_emod_of_nonneg hb.1
  have oa := or_hi (a % 4294967296) (by omega) (by omega)
  have ob := or_hi (b % 4294967296) (by omega) (by omega)
  have xa := xor_top (a % 4294967296) (by omega) (by omega)
  have xb := xor_top (b % 4294967296) (by omega) (by omega)
  have xa2 := xor_top (a % 4294967296 + 18446744069414584320) (by omega) (by omega)
  have xb2 := xor_top (b % 4294967296 + 18446744069414584320) (by omega) (by omega)
  have xa3 := xor_top a ha.1 ha.2
  have xb3 := xor_top b hb.1 hb.2
  have wa := w_i32 a
  have wb := w_i32 b
  have va := w_i64 a
  have vb := w_i64 b
  simp only [ta, tb, w_u64] at h0 h1 h2 h3 h4 h5 h6 h7 h8 h9 h10
  try simp (disch := omega) only [Int.tmod_eq_emod_of_nonneg] at h0 h1 h2 h3 h4 h5 h6 h7 h8 h9 h10
  omega
theorem exc8_6 (i : Nat → Int) (hh : Holds i [((.eq (.conv .u64 (.conv .i32 (.var 1 0 18446744073709551615))) (.ar .rem .u64 (.var 1 0 18446744073709551615) (.lit 4294967296))), false), ((.eq (.conv .u32 (.var 2 0 18446744073709551615)) (.ar .rem .u64 (.ar .rem .u64 (.var 1 0 18446744073709551615) (.lit 4294967296)) (.lit 4294967296))), true), ((.lt (.ar .xor .u64 (.ar .rem .u64 (.var 1 0 18446744073709551615) (.lit 4294967296)) (.lit 9223372036854775808)) (.ar .xor .u64 (.ar .rem .u64 (.var 2 0 18446744073709551615) (.lit 4294967296)) (.lit 9223372036854775808))), true), ((.lt (.ar .rem .u64 (.var 2 0 18446744073709551615) (.lit 4294967296)) (.lit 2147483648)), true), ((.lt (.ar .rem .u64 (.var 1 0 18446744073709551615) (.lit 4294967296)) (.lit 2147483648)), true), ((.lt (.conv .i32 (.var 2 0 18446744073709551615)) (.conv .i32 (.var 1 0 18446744073709551615))), true), ((.lt (.var 0 0 255) (.lit 74)), false), ((.lt (.var 0 0 255) (.lit 73)), false), ((.lt (.var 0 0 255) (.lit 75)), true), ((.lt (.var 0 0 255) (.lit 72)), false), ((.lt (.var 0 0 255) (.lit 78)), true), ((.lt (.var 0 0 255) (.lit 89)), true), ((.lt (.var 0 0 255) (.lit 67)), false)]) : False := by
  have h0 := hh _ _ (.head _)
  have h1 := hh _ _ (.tail _ (.head _))
  have h2 := hh _ _ (.tail _ (.tail _ (.head _)))
  have h3 := hh _ _ (.tail _ (.tail _ (.tail _ (.head _))))
  have h4 := hh _ _ (.tail _ (.tail _ (.tail _ (.tail _ (.head _)))))
  have h5 := hh _ _ (.tail _ (.tail _ (.tail _ (.tail _ (.tail _ (.head _))))))
  have h6 := hh _ _ (.tail _ (.tail _ (.tail _ (.tail _ (.tail _ (.tail _ (.head _)))))))
  have h7 := hh _ _ (.tail _ (.tail _ (.tail _ (.tail _ (.tail _ (.tail _ (.tail _ (.head _))))))))
  have h8 := hh _ _ (.tail _ (.tail _ (.tail _ (.tail _ (.tail _ (.tail _ (.tail _ (.tail _ (.head _)))))))))
  have h9 := hh _ _ (.tail _ (.tail _ (.tail _ (.tail _ (.tail _ (.tail _ (.tail _ (.tail _ (.tail _ (.head _))))))))))
  have h10 := hh _ _ (.tail _ (.tail _ (.tail _ (.tail _ (.tail _ (.tail _ (.tail _ (.tail _ (.tail _ (.tail _ (.head _)))))))))))
  have h11 := hh _ _ (.tail _ (.tail _ (.tail _ (.tail _ (.tail _ (.tail _ (.tail _ (.tail _ (.tail _ (.tail _ (.tail _ (.head _))))))))))))
  have h12 := hh _ _ (.tail _ (.tail _ (.tail _ (.tail _ (.tail _ (.tail _ (.tail _ (.tail _ (.tail _ (.tail _ (.tail _ (.tail _ (.head _)))))))))))))
  clear hh
  simp only [N.den, aRem, true_iff, Bool.false_eq_true, false_iff, bI_ne, ieq_iff, ilt_iff] at h0 h1 h2 h3 h4 h5 h6 h7 h8 h9 h10 h11 h12
  generalize hA0 : max 0 (min 18446744073709551615 (i 1)) = a at *
  generalize hB0 : max 0 (min 18446744073709551615 (i 2)) = b at *
  generalize max 0 (min 255 (i 0)) = c at *
  have ha : 0 ≤ a ∧ a ≤ 18446744073709551615 := by omega
  have hb : 0 ≤ b ∧ b ≤ 18446744073709551615 := by omega
  clear hA0 hB0
  have ta : a.tmod 4294967296 = a % 4294967296 := Int.tmod_eq_emod_of_nonneg ha.1
  have tb : b.tmod 4294967296 = b % 4294967296 := Int.tmod_eq_emod_of_nonneg hb.1
  have oa := or_hi (a % 4294967296) (by omega) (by omega)
  have ob := or_hi (b % 4294967296) (by omega) (by omega)
  have xa := xor_top (a % 4294967296) (by omega) (by omega)
  have xb := xor_top (b % 4294967296) (by omega) (by omega)
  have xa2 := xor_top (a % 4294967296 + 18446744069414584320) (by omega) (by omega)
  have xb2 := xor_top (b % 4294967296 + 18446744069414584320) (by omega) (by omega)
  have xa3 := xor_top a ha.1 ha.2
  have xb3 := xor_top b hb.1 hb.2
  have wa := w_i32 a
  have wb := w_i32 b
  have va := w_i64 a
  have vb := w_i64 b
  simp only [ta, tb, xa, xb, w_u64, w_u32] at h0 h1 h2 h3 h4 h5 h6 h7 h8 h9 h10 h11 h12
  try simp (disch := omega) only [Int.tmod_eq_emod_of_nonneg] at h0 h1 h2 h3 h4 h5 h6 h7 h8 h9 h10 h11 h12
  omega
theorem exc8_7 (i : Nat → Int) (hh : Holds i [((.eq (.conv .u32 (.var 2 0 18446744073709551615)) (.ar .rem .u64 (.ar .rem .u64 (.var 1 0 18446744073709551615) (.lit 4294967296)) (.lit 4294967296))), false), ((.lt (.ar .xor .u64 (.ar .rem .u64 (.var 1 0 18446744073709551615) (.lit 4294967296)) (.lit 9223372036854775808)) (.ar .xor .u64 (.ar .rem .u64 (.var 2 0 18446744073709551615) (.lit 4294967296)) (.lit 9223372036854775808))), true), ((.lt (.ar .rem .u64 (.var 2 0 18446744073709551615) (.lit 4294967296)) (.lit 2147483648)), true), ((.lt (.ar .rem .u64 (.var 1 0 18446744073709551615) (.lit 4294967296)) (.lit 2147483648)), true), ((.lt (.conv .i32 (.var 2 0 18446744073709551615)) (.conv .i32 (.var 1 0 18446744073709551615))), true), ((.lt (.var 0 0 255) (.lit 74)), false), ((.lt (.var 0 0 255) (.lit 73)), false), ((.lt (.var 0 0 255) (.lit 75)), true), ((.lt (.var 0 0 255) (.lit 72)), false), ((.lt (.var 0 0 255) (.lit 78)), true), ((.lt (.var 0 0 255) (.lit 89)), true), ((.lt (.var 0 0 255) (.lit 67)), false)]) : False := by
  have h0 := hh _ _ (.head _)
  have h1 := hh _ _ (.tail _ (.head _))
  have h2 := hh _ _ (.tail _ (.tail _ (.head _)))
  have h3 := hh _ _ (.tail _ (.tail _ (.tail _ (.head _))))
  have h4 := hh _ _ (.tail _ (.tail _ (.tail _ (.tail _ (.head _)))))
  have h5 := hh _ _ (.tail _ (.tail _ (.tail _ (.tail _ (.tail _ (.head _))))))
  have h6 := hh _ _ (.tail _ (.tail _ (.tail _ (.tail _ (.tail _ (.tail _ (.head _)))))))
  have h7 := hh _ _ (.tail _ (.tail _ (.tail _ (.tail _ (.tail _ (.tail _ (.tail _ (.head _))))))))
  have h8 := hh _ _ (.tail _ (.tail _ (.tail _ (.tail _ (.tail _ (.tail _ (.tail _ (.tail _ (.head _)))))))))
  have h9 := hh _ _ (.tail _ (.tail _ (.tail _ (.tail _ (.tail _ (.tail _ (.tail _ (.tail _ (.tail _ (.head _))))))))))
  have h10 := hh _ _ (.tail _ (.tail _ (.tail _ (.tail _ (.tail _ (.tail _ (.tail _ (.tail _ (.tail _ (.tail _ (.head _)))))))))))
  have h11 := hh _ _ (.tail _ (.tail _ (.tail _ (.tail _ (.tail _ (.tail _ (.tail _ (.tail _ (.tail _ (.tail _ (.tail _ (.head _))))))))))))
  clear hh
  simp only [N.den, aRem, true_iff, Bool.false_eq_true, false_iff, bI_ne, ieq_iff, ilt_iff] at h0 h1 h2 h3 h4 h5 h6 h7 h8 h9 h10 h11
  generalize hA0 : max 0 (min 18446744073709551615 (i 1)) = a at *
  generalize hB0 : max 0 (min 18446744073709551615 (i 2)) = b at *
  generalize max 0 (min 255 (i 0)) = c at *
  have ha : 0 ≤ a ∧ a ≤ 18446744073709551615 := by omega
  have hb : 0 ≤ b ∧ b ≤ 18446744073709551615 := by omega
  clear hA0 hB0
  have ta : a.tmod 4294967296 = a % 4294967296 := Int.tmod_eq_emod_of_nonneg ha.1
  have tb : b.tmod 4294967296 = b % 4294967296 := Int.tmod_eq_emod_of_nonneg hb.1
  have oa := or_hi (a % 4294967296) (by omega) (by omega)
  have ob := or_hi (b % 4294967296) (by omega) (by omega)
  have xa := xor_top (a % 4294967296) (by omega) (by omega)
  have xb := xor_top (b % 4294967296) (by omega) (by omega)
  have xa2 := xor_top (a % 4294967296 + 18446744069414584320) (by omega) (by omega)
  have xb2 := xor_top (b % 4294967296 + 18446744069414584320) (by omega) (by omega)
  have xa3 := xor_top a ha.1 ha.2
  have xb3 := xor_top b hb.1 hb.2
  have wa := w_i32 a
  have wb := w_i32 b
  have va := w_i64 a
  have vb := w_i64 b
  simp only [ta, tb, xa, xb, w_u32] at h0 h1 h2 h3 h4 h5 h6 h7 h8 h9 h10 h11
  try simp (disch := omega) only [Int.tmod_eq_emod_of_nonneg] at h0 h1 h2 h3 h4 h5 h6 h7 h8 h9 h10 h11
  omega
theorem exc8_8 (i : Nat → Int) (hh : Holds i [((.eq (.conv .u64 (.conv .i32 (.var 1 0 18446744073709551615))) (.ar .rem .u64 (.var 1 0 18446744073709551615) (.lit 4294967296))), false), ((.lt (.ar .xor .u64 (.ar .rem .u64 (.var 1 0 18446744073709551615) (.lit 4294967296)) (.lit 9223372036854775808)) (.ar .xor .u64 (.ar .rem .u64 (.var 2 0 18446744073709551615) (.lit 4294967296)) (.lit 9223372036854775808))), false), ((.lt (.ar .rem .u64 (.var 2 0 18446744073709551615) (.lit 4294967296)) (.lit 2147483648)), true), ((.lt (.ar .rem .u64 (.var 1 0 18446744073709551615) (.lit 4294967296)) (.lit 2147483648)), true), ((.lt (.conv .i32 (.var 2 0 18446744073709551615)) (.conv .i32 (.var 1 0 18446744073709551615))), true), ((.lt (.var 0 0 255) (.lit 74)), false), ((.lt (.var 0 0 255) (.lit 73)), false), ((.lt (.var 0 0 255) (.lit 75)), true), ((.lt (.var 0 0 255) (.lit 72)), false), ((.lt (.var 0 0 255) (.lit 78)), true), ((.lt (.var 0 0 255) (.lit 89)), true), ((.lt (.var 0 0 255) (.lit 67)), false)]) : False := by
  have h0 := hh _ _ (.head _)
  have h1 := hh _ _ (.tail _ (.head _))
  have h2 := hh _ _ (.tail _ (.tail _ (.head _)))
  have h3 := hh _ _ (.tail _ (.tail _ (.tail _ (.head _))))
  have h4 := hh _ _ (.tail _ (.tail _ (.tail _ (.tail _ (.head _)))))
  have h5 := hh _ _ (.tail _ (.tail _ (.tail _ (.tail _ (.tail _ (.head _))))))
  have h6 := hh _ _ (.tail _ (.tail _ (.tail _ (.tail _ (.tail _ (.tail _ (.head _)))))))
  have h7 := hh _ _ (.tail _ (.tail _ (.tail _ (.tail _ (.tail _ (.tail _ (.tail _ (.head _))))))))
  have h8 := hh _ _ (.tail _ (.tail _ (.tail _ (.tail _ (.tail _ (.tail _ (.tail _ (.tail _ (.head _)))))))))
  have h9 := hh _ _ (.tail _ (.tail _ (.tail _ (.tail _ (.tail _ (.tail _ (.tail _ (.tail _ (.tail _ (.head _))))))))))
  have h10 := hh _ _ (.tail _ (.tail _ (.tail _ (.tail _ (.tail _ (.tail _ (.tail _ (.tail _ (.tail _ (.tail _ (.head _)))))))))))
  have h11 := hh _ _ (.tail _ (.tail _ (.tail _ (.tail _ (.tail _ (.tail _ (.tail _ (.tail _ (.tail _ (.tail _ (.tail _ (.head _))))))))))))
  clear hh
  simp only [N.den, aRem, true_iff, Bool.false_eq_true, false_iff, bI_ne, ieq_iff, ilt_iff] at h0 h1 h2 h3 h4 h5 h6 h7 h8 h9 h10 h11
  generalize hA0 : max 0 (min 18446744073709551615 (i 1)) = a at *
  generalize hB0 : max 0 (min 18446744073709551615 (i 2)) = b at *
  generalize max 0 (min 255 (i 0)) = c at *
  have ha : 0 ≤ a ∧ a ≤ 18446744073709551615 := by omega
  have hb : 0 ≤ b ∧ b ≤ 18446744073709551615 := by omega
  clear hA0 hB0
  have ta : a.tmod 4294967296 = a % 4294967296 := Int.tmod_eq_emod_of_nonneg ha.1
  have tb : b.tmod 4294967296 = b % 4294967296 := Int.tmod_eq_emod_of_nonneg hb.1
  have oa := or_hi (a % 4294967296) (by omega) (by omega)
  have ob := or_hi (b % 4294967296) (by omega) (by omega)
  have xa := xor_top (a % 4294967296) (by omega) (by omega)
  have xb := xor_top (b % 4294967296) (by omega) (by omega)
  have xa2 := xor_top (a % 4294967296 + 18446744069414584320) (by omega) (by omega)
  have xb2 := xor_top (b % 4294967296 + 18446744069414584320) (by omega) (by omega)
  have xa3 := xor_top a ha.1 ha.2
  have xb3 := xor_top b hb.1 hb.2
  have wa := w_i32 a
  have wb := w_i32 b
  have va := w_i64 a
  have vb := w_i64 b
  simp only [ta, tb, xa, xb, w_u64] at h0 h1 h2 h3 h4 h5 h6 h7 h8 h9 h10 h11
  try simp (disch := omega) only [Int.tmod_eq_emod_of_nonneg] at h0 h1 h2 h3 h4 h5 h6 h7 h8 h9 h10 h11
  omega
theorem exc8_9 (i : Nat → Int) (hh : Holds i [((.eq (.conv .u64 (.conv .i32 (.var 1 0 18446744073709551615))) (.ar .or .u64 (.ar .rem .u64 (.var 1 0 18446744073709551615) (.lit 4294967296)) (.lit 18446744069414584320))), false), ((.lt (.ar .xor .u64 (.ar .or .u64 (.ar .rem .u64 (.var 1 0 18446744073709551615) (.lit 4294967296)) (.lit 18446744069414584320)) (.lit 9223372036854775808)) (.ar .xor .u64 (.ar .or .u64 (.ar .rem .u64 (.var 2 0 18446744073709551615) (.lit 4294967296)) (.lit 18446744069414584320)) (.lit 9223372036854775808))), true), ((.lt (.ar .rem .u64 (.var 2 0 18446744073709551615) (.lit 4294967296)) (.lit 2147483648)), false), ((.lt (.ar .rem .u64 (.var 1 0 18446744073709551615) (.lit 4294967296)) (.lit 2147483648)), false), ((.lt (.conv .i32 (.var 2 0 18446744073709551615)) (.conv .i32 (.var 1 0 18446744073709551615))), false), ((.lt (.var 0 0 255) (.lit 74)), false), ((.lt (.var 0 0 255) (.lit 73)), false), ((.lt (.var 0 0 255) (.lit 75)), true), ((.lt (.var 0 0 255) (.lit 72)), false), ((.lt (.var 0 0 255) (.lit 78)), true), ((.lt (.var 0 0 255) (.lit 89)), true), ((.lt (.var 0 0 255) (.lit 67)), false)]) : False := by
  have h0 := hh _ _ (.head _)
  have h1 := hh _ _ (.tail _ (.head _))
  have h2 := hh _ _ (.tail _ (.tail _ (.head _)))
  have h3 := hh _ _ (.tail _ (.tail _ (.tail _ (.head _))))
  have h4 := hh _ _ (.tail _ (.tail _ (.tail _ (.tail _ (.head _)))))
  have h5 := hh _ _ (.tail _ (.tail _ (.tail _ (.tail _ (.tail _ (.head _))))))
  have h6 := hh _ _ (.tail _ (.tail _ (.tail _ (.tail _ (.tail _ (.tail _ (.head _)))))))
  have h7 := hh _ _ (.tail _ (.tail _ (.tail _ (.tail _ (.tail _ (.tail _ (.tail _ (.head _))))))))
  have h8 := hh _ _ (.tail _ (.tail _ (.tail _ (.tail _ (.tail _ (.tail _ (.tail _ (.tail _ (.head _)))))))))
  have h9 := hh _ _ (.tail _ (.tail _ (.tail _ (.tail _ (.tail _ (.tail _ (.tail _ (.tail _ (.tail _ (.head _))))))))))
  have h10 := hh _ _ (.tail _ (.tail _ (.tail _ (.tail _ (.tail _ (.tail _ (.tail _ (.tail _ (.tail _ (.tail _ (.head _)))))))))))
  have h11 := hh _ _ (.tail _ (.tail _ (.tail _ (.tail _ (.tail _ (.tail _ (.tail _ (.tail _ (.tail _ (.tail _ (.tail _ (.head _))))))))))))
  clear hh
  simp only [N.den, aRem, true_iff, Bool.false_eq_true, false_iff, bI_ne, ieq_iff, ilt_iff] at h0 h1 h2 h3 h4 h5 h6 h7 h8 h9 h10 h11
  generalize hA0 : max 0 (min 18446744073709551615 (i 1)) = a at *
  generalize hB0 : max 0 (min 18446744073709551615 (i 2)) = b at *
  generalize max 0 (min 255 (i 0)) = c at *
  have ha : 0 ≤ a ∧ a ≤ 18446744073709551615 := by omega
  have hb : 0 ≤ b ∧ b ≤ 18446744073709551615 := by omega
  clear hA0 hB0
  have ta : a.tmod 4294967296 = a % 4294967296 := Int.tmod_eq_emod_of_nonneg ha.1
  have tb : b.tmod 4294967296 = b % 4294967296 := Int.tmod_eq_emod_of_nonneg hb.1
  have oa := or_hi (a % 4294967296) (by omega) (by omega)
  have ob := or_hi (b % 4294967296) (by omega) (by omega)
  have xa := xor_top (a % 4294967296) (by omega) (by omega)
  have xb := xor_top (b % 4294967296) (by omega) (by omega)
  have xa2 := xor_top (a % 4294967296 + 18446744069414584320) (by omega) (by omega)
  have xb2 := xor_top (b % 4294967296 + 18446744069414584320) (by omega) (by omega)
  have xa3 := xor_top a ha.1 ha.2
  have xb3 := xor_top b hb.1 hb.2
  have wa := w_i32 a
  have wb := w_i32 b
  have va := w_i64 a
  have vb := w_i64 b
  simp only [ta, tb, oa, ob, xa2, xb2, w_u64] at h0 h1 h2 h3 h4 h5 h6 h7 h8 h9 h10 h11
  try simp (disch := omega) only [Int.tmod_eq_emod_of_nonneg] at h0 h1 h2 h3 h4 h5 h6 h7 h8 h9 h10 h11
  omega
theorem exc8_10 (i : Nat → Int) (hh : Holds i [((.eq (.conv .u64 (.conv .i32 (.var 1 0 18446744073709551615))) (.ar .or .u64 (.ar .rem .u64 (.var 1 0 18446744073709551615) (.lit 4294967296)) (.lit 18446744069414584320))), false), ((.eq (.conv .u32 (.var 1 0 18446744073709551615)) (.ar .rem .u64 (.ar .or .u64 (.ar .rem .u64 (.var 2 0 18446744073709551615) (.lit 4294967296)) (.lit 18446744069414584320)) (.lit 4294967296))), true), ((.lt (.ar .xor .u64 (.ar .or .u64 (.ar .rem .u64 (.var 1 0 18446744073709551615) (.lit 4294967296)) (.lit 18446744069414584320)) (.lit 9223372036854775808)) (.ar .xor .u64 (.ar .or .u64 (.ar .rem .u64 (.var 2 0 18446744073709551615) (.lit 4294967296)) (.lit 18446744069414584320)) (.lit 9223372036854775808))), false), ((.lt (.ar .rem .u64 (.var 2 0 18446744073709551615) (.lit 4294967296)) (.lit 2147483648)), false), ((.lt (.ar .rem .u64 (.var 1 0 18446744073709551615) (.lit 4294967296)) (.lit 2147483648)), false), ((.lt (.conv .i32 (.var 2 0 18446744073709551615)) (.conv .i32 (.var 1 0 18446744073709551615))), false), ((.lt (.var 0 0 255) (.lit 74)), false), ((.lt (.var 0 0 255) (.lit 73)), false), ((.lt (.var 0 0 255) (.lit 75)), true), ((.lt (.var 0 0 255) (.lit 72)), false), ((.lt (.var 0 0 255) (.lit 78)), true), ((.lt (.var 0 0 255) (.lit 89)), true), ((.lt (.var 0 0 255) (.lit 67)), false)]) : False := by
  have h0 := hh _ _ (.head _)
  have h1 := hh _ _ (.tail _ (.head _))
  have h2 := hh _ _ (.tail _ (.tail _ (.head _)))
  have h3 := hh _ _ (.tail _ (.tail _ (.tail _ (.head _))))
  have h4 := hh _ _ (.tail _ (.tail _ (.tail _ (.tail _ (.head _)))))
  have h5 := hh _ _ (.tail _ (.tail _ (.tail _ (.tail _ (.tail _ (.head _))))))
  have h6 := hh _ _ (.tail _ (.tail _ (.tail _ (.tail _ (.tail _ (.tail _ (.head _)))))))
  have h7 := hh _ _ (.tail _ (.tail _ (.tail _ (.tail _ (.tail _ (.tail _ (.tail _ (.head _))))))))
  have h8 := hh _ _ (.tail _ (.tail _ (.tail _ (.tail _ (.tail _ (.tail _ (.tail _ (.tail _ (.head _)))))))))
  have h9 := hh _ _ (.tail _ (.tail _ (.tail _ (.tail _ (.tail _ (.tail _ (.tail _ (.tail _ (.tail _ (.head _))))))))))
  have h10 := hh _ _ (.tail _ (.tail _ (.tail _ (.tail _ (.tail _ (.tail _ (.tail _ (.tail _ (.tail _ (.tail _ (.head _)))))))))))
  have h11 := hh _ _ (.tail _ (.tail _ (.tail _ (.tail _ (.tail _ (.tail _ (.tail _ (.tail _ (.tail _ (.tail _ (.tail _ (.head _))))))))))))
  have h12 := hh _ _ (.tail _ (.tail _ (.tail _ (.tail _ (.tail _ (.tail _ (.tail _ (.tail _ (.tail _ (.tail _ (.tail _ (.tail _ (.head _)))))))))))))
  clear hh
  simp only [N.den, aRem, true_iff, Bool.false_eq_true, false_iff, bI_ne, ieq_iff, ilt_iff] at h0 h1 h2 h3 h4 h5 h6 h7 h8 h9 h10 h11 h12
  generalize hA0 : max 0 (min 18446744073709551615 (i 1)) = a at *
  generalize hB0 : max 0 (min 18446744073709551615 (i 2)) = b at *
  generalize max 0 (min 255 (i 0)) = c at *
  have ha : 0 ≤ a ∧ a ≤ 18446744073709551615 := by omega
  have hb : 0 ≤ b ∧ b ≤ 18446744073709551615 := by omega
  clear hA0 hB0
  have ta : a.tmod 4294967296 = a % 4294967296 := Int.tmod_eq_emod_of_nonneg ha.1
  have tb : b.tmod 4294967296 = b % 4294967296 := Int.tmod_eq_emod_of_nonneg hb.1
  have oa := or_hi (a % 4294967296) (by omega) (by omega)
  have ob := or_hi (b % 4294967296) (by omega) (by omega)
  have xa := xor_top (a % 4294967296) (by omega) (by omega)
  have xb := xor_top (b % 4294967296) (by omega) (by omega)
  have xa2 := xor_top (a % 4294967296 + 18446744069414584320) (by omega) (by omega)
  have xb2 := xor_top (b % 4294967296 + 18446744069414584320) (by omega) (by omega)
  have xa3 := xor_top a ha.1 ha.2
  have xb3 := xor_top b hb.1 hb.2
  have wa := w_i32 a
  have wb := w_i32 b
  have va := w_i64 a
  have vb := w_i64 b
  simp only [ta, tb, oa, ob, xa2, xb2, w_u64, w_u32] at h0 h1 h2 h3 h4 h5 h6 h7 h8 h9 h10 h11 h12
  try simp (disch := omega) only [Int.tmod_eq_emod_of_nonneg] at h0 h1 h2 h3 h4 h5 h6 h7 h8 h9 h10 h11 h12
  omega
theorem exc8_11 (i : Nat → Int) (hh : Holds i [((.eq (.conv .u32 (.var 1 0 18446744073709551615)) (.ar .rem .u64 (.ar .or .u64 (.ar .rem .u64 (.var 2 0 18446744073709551615) (.lit 4294967296)) (.lit 18446744069414584320)) (.lit 4294967296))), false), ((.lt (.ar .xor .u64 (.ar .or .u64 (.ar .rem .u64 (.var 1 0 18446744073709551615) (.lit 4294967296)) (.lit 18446744069414584320)) (.lit 9223372036854775808)) (.ar .xor .u64 (.ar .or .u64 (.ar .rem .u64 (.var 2 0 18446744073709551615) (.lit 4294967296)) (.lit 18446744069414584320)) (.lit 9223372036854775808))), false), ((.lt (.ar .rem .u64 (.var 2 0 18446744073709551615) (.lit 4294967296)) (.lit 2147483648)), false), ((.lt (.ar .rem .u64 (.var 1 0 18446744073709551615) (.lit 4294967296)) (.lit 2147483648)), false), ((.lt (.conv .i32 (.var 2 0 18446744073709551615)) (.conv .i32 (.var 1 0 18446744073709551615))), false), ((.lt (.var 0 0 255) (.lit 74)), false), ((.lt (.var 0 0 255) (.lit 73)), false), ((.lt (.var 0 0 255) (.lit 75)), true), ((.lt (.var 0 0 255) (.lit 72)), false), ((.lt (.var 0 0 255) (.lit 78)), true), ((.lt (.var 0 0 255) (.lit 89)), true), ((.lt (.var 0 0 255) (.lit 67)), false)]) : False := by
  have h0 := hh _ _ (.head _)
  have h1 := hh _ _ (.tail _ (.head _))
  have h2 := hh _ _ (.tail _ (.tail _ (.head _)))
  have h3 := hh _ _ (.tail _ (.tail _ (.tail _ (.head _))))
  have h4 := hh _ _ (.tail _ (.tail _ (.tail _ (.tail _ (.head _)))))
  have h5 := hh _ _ (.tail _ (.tail _ (.tail _ (.tail _ (.tail _ (.head _))))))
  have h6 := hh _ _ (.tail _ (.tail _ (.tail _ (.tail _ (.tail _ (.tail _ (.head _)))))))
  have h7 := hh _ _ (.tail _ (.tail _ (.tail _ (.tail _ (.tail _ (.tail _ (.tail _ (.head _))))))))
  have h8 := hh _ _ (.tail _ (.tail _ (.tail _ (.tail _ (.tail _ (.tail _ (.tail _ (.tail _ (.head _)))))))))
  have h9 := hh _ _ (.tail _ (.tail _ (.tail _ (.tail _ (.tail _ (.tail _ (.tail _ (.tail _ (.tail _ (.head _))))))))))
  have h10 := hh _ _ (.tail _ (.tail _ (.tail _ (.tail _ (.tail _ (.tail _ (.tail _ (.tail _ (.tail _ (.tail _ (.head _)))))))))))
  have h11 := hh _ _ (.tail _ (.tail _ (.tail _ (.tail _ (.tail _ (.tail _ (.tail _ (.tail _ (.tail _ (.tail _ (.tail _ (.head _))))))))))))
  clear hh
  simp only [N.den, aRem, true_iff, Bool.false_eq_true, false_iff, bI_ne, ieq_iff, ilt_iff] at h0 h1 h2 h3 h4 h5 h6 h7 h8 h9 h10 h11
  generalize hA0 : max 0 (min 18446744073709551615 (i 1)) = a at *
  generalize hB0 : max 0 (min 18446744073709551615 (i 2)) = b at *
  generalize max 0 (min 255 (i 0)) = c at *
  have ha : 0 ≤ a ∧ a ≤ 18446744073709551615 := by omega
  have hb : 0 ≤ b ∧ b ≤ 18446744073709551615 := by omega
  clear hA0 hB0
  have ta : a.tmod 4294967296 = a % 4294967296 := Int.tmod_eq_emod_of_nonneg ha.1
  have tb : b.tmod 4294967296 = b % 4294967296 := Int.tmod_eq_emod_of_nonneg hb.1
  have oa := or_hi (a % 4294967296) (by omega) (by omega)
  have ob := or_hi (b % 4294967296) (by omega) (by omega)
  have xa := xor_top (a % 4294967296) (by omega) (by omega)
  have xb := xor_top (b % 4294967296) (by omega) (by omega)
  have xa2 := xor_top (a % 4294967296 + 18446744069414584320) (by omega) (by omega)
  have xb2 := xor_top (b % 4294967296 + 18446744069414584320) (by omega) (by omega)
  have xa3 := xor_top a ha.1 ha.2
  have xb3 := xor_top b hb.1 hb.2
  have wa := w_i32 a
  have wb := w_i32 b
  have va := w_i64 a
  have vb := w_i64 b
  simp only [ta, tb, oa, ob, xa2, xb2, w_u32] at h0 h1 h2 h3 h4 h5 h6 h7 h8 h9 h10 h11
  try simp (disch := omega) only [Int.tmod_eq_emod_of_nonneg] at h0 h1 h2 h3 h4 h5 h6 h7 h8 h9 h10 h11
  omega
theorem exc8_12 (i : Nat → Int) (hh : Holds i [((.eq (.conv .u64 (.conv .i32 (.var 1 0 18446744073709551615))) (.ar .or .u64 (.ar .rem .u64 (.var 1 0 18446744073709551615) (.lit 4294967296)) (.lit 18446744069414584320))), false), ((.lt (.ar .rem .u64 (.var 2 0 18446744073709551615) (.lit 4294967296)) (.lit 2147483648)), true), ((.lt (.ar .rem .u64 (.var 1 0 18446744073709551615) (.lit 4294967296)) (.lit 2147483648)), false), ((.lt (.conv .i32 (.var 2 0 18446744073709551615)) (.conv .i32 (.var 1 0 18446744073709551615))), false), ((.lt (.var 0 0 255) (.lit 74)), false), ((.lt (.var 0 0 255) (.lit 73)), false), ((.lt (.var 0 0 255) (.lit 75)), true), ((.lt (.var 0 0 255) (.lit 72)), false), ((.lt (.var 0 0 255) (.lit 78)), true), ((.lt (.var 0 0 255) (.lit 89)), true), ((.lt (.var 0 0 255) (.lit 67)), false)]) : False := by
  have h0 := hh _ _ (.head _)
  have h1 := hh _ _ (.tail _ (.head _))
  have h2 := hh _ _ (.tail _ (.tail _ (.head _)))
  have h3 := hh _ _ (.tail _ (.tail _ (.tail _ (.head _))))
  have h4 := hh _ _ (.tail _ (.tail _ (.tail _ (.tail _ (.head _)))))
  have h5 := hh _ _ (.tail _ (.tail _ (.tail _ (.tail _ (.tail _ (.head _))))))
  have h6 := hh _ _ (.tail _ (.tail _ (.tail _ (.tail _ (.tail _ (.tail _ (.head _)))))))
  have h7 := hh _ _ (.tail _ (.tail _ (.tail _ (.tail _ (.tail _ (.tail _ (.tail _ (.head _))))))))
  have h8 := hh _ _ (.tail _ (.tail _ (.tail _ (.tail _ (.tail _ (.tail _ (.tail _ (.tail _ (.head _)))))))))
  have h9 := hh _ _ (.tail _ (.tail _ (.tail _ (.tail _ (.tail _ (.tail _ (.tail _ (.tail _ (.tail _ (.head _))))))))))
  have h10 := hh _ _ (.tail _ (.tail _ (.tail _ (.tail _ (.tail _ (.tail _ (.tail _ (.tail _ (.tail _ (.tail _ (.head _)))))))))))
  clear hh
  simp only [N.den, aRem, true_iff, Bool.false_eq_true, false_iff, bI_ne, ieq_iff, ilt_iff] at h0 h1 h2 h3 h4 h5 h6 h7 h8 h9 h10
  generalize hA0 : max 0 (min 18446744073709551615 (i 1)) = a at *
  generalize hB0 : max 0 (min 18446744073709551615 (i 2)) = b at *
  generalize max 0 (min 255 (i 0)) = c at *
  have ha : 0 ≤ a ∧ a ≤ 18446744073709551615 := by omega
  have hb : 0 ≤ b ∧ b ≤ 18446744073709551615 := by omega
  clear hA0 hB0
  have ta : a.tmod 4294967296 = a % 4294967296 := Int.tmod_eq_emod_of_nonneg ha.1
  have tb : b.tmod 4294967296 = b % 4294967296 := Int.tmod_eq_emod_of_nonneg hb.1
  have oa := or_hi (a % 4294967296) (by omega) (by omega)
  have ob := or_hi (b % 4294967296) (by omega) (by omega)
  have xa := xor_top (a % 4294967296) (by omega) (by omega)
  have xb := xor_top (b % 4294967296) (by omega) (by omega)
  have xa2 := xor_top (a % 4294967296 + 18446744069414584320) (by omega) (by omega)
  have xb2 := xor_top (b % 4294967296 + 18446744069414584320) (by omega) (by omega)
  have xa3 := xor_top a ha.1 ha.2
  have xb3 := xor_top b hb.1 hb.2
  have wa := w_i32 a
  have wb := w_i32 b
  have va := w_i64 a
  have vb := w_i64 b
  simp only [ta, tb, oa, w_u64] at h0 h1 h2 h3 h4 h5 h6 h7 h8 h9 h10
  try simp (disch := omega) only [Int.tmod_eq_emod_of_nonneg] at h0 h1 h2 h3 h4 h5 h6 h7 h8 h9 h10
  omega
theorem exc8_13 (i : Nat → Int) (hh : Holds i [((.eq (.conv .u64 (.conv .i32 (.var 1 0 18446744073709551615))) (.ar .rem .u64 (.var 1 0 18446744073709551615) (.lit 4294967296))), false), ((.eq (.conv .u32 (.var 1 0 18446744073709551615)) (.ar .rem .u64 (.ar .or .u64 (.ar .rem .u64 (.var 2 0 18446744073709551615) (.lit 4294967296)) (.lit 18446744069414584320)) (.lit 4294967296))), true), ((.lt (.ar .rem .u64 (.var 2 0 18446744073709551615) (.lit 4294967296)) (.lit 2147483648)), false), ((.lt (.ar .rem .u64 (.var 1 0 18446744073709551615) (.lit 4294967296)) (.lit 2147483648)), true), ((.lt (.conv .i32 (.var 2 0 18446744073709551615)) (.conv .i32 (.var 1 0 18446744073709551615))), false), ((.lt (.var 0 0 255) (.lit 74)), false), ((.lt (.var 0 0 255) (.lit 73)), false), ((.lt (.var 0 0 255) (.lit 75)), true), ((.lt (.var 0 0 255) (.lit 72)), false), ((.lt (.var 0 0 255) (.lit 78)), true), ((.lt (.var 0 0 255) (.lit 89)), true), ((.lt (.var 0 0 255) (.lit 67)), false)]) : False := by
  have h0 := hh _ _ (.head _)
  have h1 := hh _ _ (.tail _ (.head _))
  have h2 := hh _ _ (.tail _ (.tail _ (.head _)))
  have h3 := hh _ _ (.tail _ (.tail _ (.tail _ (.head _))))
  have h4 := hh _ _ (.tail _ (.tail _ (.tail _ (.tail _ (.head _)))))
  have h5 := hh _ _ (.tail _ (.tail _ (.tail _ (.tail _ (.tail _ (.head _))))))
  have h6 := hh _ _ (.tail _ (.tail _ (.tail _ (.tail _ (.tail _ (.tail _ (.head _)))))))
  have h7 := hh _ _ (.tail _ (.tail _ (.tail _ (.tail _ (.tail _ (.tail _ (.tail _ (.head _))))))))
  have h8 := hh _ _ (.tail _ (.tail _ (.tail _ (.tail _ (.tail _ (.tail _ (.tail _ (.tail _ (.head _)))))))))
  have h9 := hh _ _ (.tail _ (.tail _ (.tail _ (.tail _ (.tail _ (.tail _ (.tail _ (.tail _ (.tail _ (.head _))))))))))
  have h10 := hh _ _ (.tail _ (.tail _ (.tail _ (.tail _ (.tail _ (.tail _ (.tail _ (.tail _ (.tail _ (.tail _ (.head _)))))))))))
  have h11 := hh _ _ (.tail _ (.tail _ (.tail _ (.tail _ (.tail _ (.tail _ (.tail _ (.tail _ (.tail _ (.tail _ (.tail _ (.head _))))))))))))
  clear hh
  simp only [N.den, aRem, true_iff, Bool.false_eq_true, false_iff, bI_ne, ieq_iff, ilt_iff] at h0 h1 h2 h3 h4 h5 h6 h7 h8 h9 h10 h11
  generalize hA0 : max 0 (min 18446744073709551615 (i 1)) = a at *
  generalize hB0 : max 0 (min 18446744073709551615 (i 2)) = b at *
  generalize max 0 (min 255 (i 0)) = c at *
  have ha : 0 ≤ a ∧ a ≤ 18446744073709551615 := by omega
  have hb : 0 ≤ b ∧ b ≤ 18446744073709551615 := by omega
  clear hA0 hB0
  have ta : a.tmod 4294967296 = a % 4294967296 := Int.tmod_eq_emod_of_nonneg ha.1
  have tb : b.tmod 4294967296 = b % 4294967296 := Int.tmod_eq_emod_of_nonneg hb.1
  have oa := or_hi (a % 4294967296) (by omega) (by omega)
  have ob := or_hi (b % 4294967296) (by omega) (by omega)
  have xa := xor_top (a % 4294967296) (by omega) (by omega)
  have xb := xor_top (b % 4294967296) (by omega) (by omega)
  have xa2 := xor_top (a % 4294967296 + 18446744069414584320) (by omega) (by omega)
  have xb2 := xor_top (b % 4294967296 + 18446744069414584320) (by omega) (by omega)
  have xa3 := xor_top a ha.1 ha.2
  have xb3 := xor_top b hb.1 hb.2
  have wa := w_i32 a
  have wb := w_i32 b
  have va := w_i64 a
  have vb := w_i64 b
  simp only [ta, tb, ob, w_u64, w_u32] at h0 h1 h2 h3 h4 h5 h6 h7 h8 h9 h10 h11
  try simp (disch := omega) only [Int.tmod_eq_emod_of_nonneg] at h0 h1 h2 h3 h4 h5 h6 h7 h8 h9 h10 h11
  omega
theorem exc8_14 (i : Nat → Int) (hh : Holds i [((.eq (.conv .u32 (.var 1 0 18446744073709551615)) (.ar .rem .u64 (.ar .or .u64 (.ar .rem .u64 (.var 2 0 18446744073709551615) (.lit 4294967296)) (.lit 18446744069414584320)) (.lit 4294967296))), false), ((.lt (.ar .rem .u64 (.var 2 0 18446744073709551615) (.lit 4294967296)) (.lit 2147483648)), false), ((.lt (.ar .rem .u64 (.var 1 0 18446744073709551615) (.lit 4294967296)) (.lit 2147483648)), true), ((.lt (.conv .i32 (.var 2 0 18446744073709551615)) (.conv .i32 (.var 1 0 18446744073709551615))), false), ((.lt (.var 0 0 255) (.lit 74)), false), ((.lt (.var 0 0 255) (.lit 73)), false), ((.lt (.var 0 0 255) (.lit 75)), true), ((.lt (.var 0 0 255) (.lit 72)), false), ((.lt (.var 0 0 255) (.lit 78)), true), ((.lt (.var 0 0 255) (.lit 89)), true), ((.lt (.var 0 0 255) (.lit 67)), false)]) : False := by
  have h0 := hh _ _ (.head _)
  have h1 := hh _ _ (.tail _ (.head _))
  have h2 := hh _ _ (.tail _ (.tail _ (.head _)))
  have h3 := hh _ _ (.tail _ (.tail _ (.tail _ (.head _))))
  have h4 := hh _ _ (.tail _ (.tail _ (.tail _ (.tail _ (.head _)))))
  have h5 := hh _ _ (.tail _ (.tail _ (.tail _ (.tail _ (.tail _ (.head _))))))
  have h6 := hh _ _ (.tail _ (.tail _ (.tail _ (.tail _ (.tail _ (.tail _ (.head _)))))))
  have h7 := hh _ _ (.tail _ (.tail _ (.tail _ (.tail _ (.tail _ (.tail _ (.tail _ (.head _))))))))
  have h8 := hh _ _ (.tail _ (.tail _ (.tail _ (.tail _ (.tail _ (.tail _ (.tail _ (.tail _ (.head _)))))))))
  have h9 := hh _ _ (.tail _ (.tail _ (.tail _ (.tail _ (.tail _ (.tail _ (.tail _ (.tail _ (.tail _ (.head _))))))))))
  have h10 := hh _ _ (.tail _ (.tail _ (.tail _ (.tail _ (.tail _ (.tail _ (.tail _ (.tail _ (.tail _ (.tail _ (.head _)))))))))))
  clear hh
  simp only [N.den, aRem, true_iff, Bool.false_eq_true, false_iff, bI_ne, ieq_iff, ilt_iff] at h0 h1 h2 h3 h4 h5 h6 h7 h8 h9 h10
  generalize hA0 : max 0 (min 18446744073709551615 (i 1)) = a at *
  generalize hB0 : max 0 (min 18446744073709551615 (i 2)) = b at *
  generalize max 0 (min 255 (i 0)) = c at *
  have ha : 0 ≤ a ∧ a ≤ 18446744073709551615 := by omega
  have hb : 0 ≤ b ∧ b ≤ 18446744073709551615 := by omega
  clear hA0 hB0
  have ta : a.tmod 4294967296 = a % 4294967296 := Int.tmod_eq_emod_of_nonneg ha.1
  have tb : b.tmod 4294967296 = b % 4294967296 := Int.tmod_eq_emod_of_nonneg hb.1
  have oa := or_hi (a % 4294967296) (by omega) (by omega)
  have ob := or_hi (b % 4294967296) (by omega) (by omega)
  have xa := xor_top (a % 4294967296) (by omega) (by omega)
  have xb := xor_top (b % 4294967296) (by omega) (by omega)
  have xa2 := xor_top (a % 4294967296 + 18446744069414584320) (by omega) (by omega)
  have xb2 := xor_top (b % 4294967296 + 18446744069414584320) (by omega) (by omega)
  have xa3 := xor_top a ha.1 ha.2
  have xb3 := xor_top b hb.1 hb.2
  have wa := w_i32 a
  have wb := w_i32 b
  have va := w_i64 a
  have vb := w_i64 b
  simp only [ta, tb, ob, w_u32] at h0 h1 h2 h3 h4 h5 h6 h7 h8 h9 h10
  try simp (disch := omega) only [Int.tmod_eq_emod_of_nonneg] at h0 h1 h2 h3 h4 h5 h6 h7 h8 h9 h10
  omega
theorem exc8_15 (i : Nat → Int) (hh : Holds i [((.eq (.conv .u64 (.conv .i32 (.var 1 0 18446744073709551615))) (.ar .rem .u64 (.var 1 0 18446744073709551615) (.lit 4294967296))), false), ((.lt (.ar .xor .u64 (.ar .rem .u64 (.var 1 0 18446744073709551615) (.lit 4294967296)) (.lit 9223372036854775808)) (.ar .xor .u64 (.ar .rem .u64 (.var 2 0 18446744073709551615) (.lit 4294967296)) (.lit 9223372036854775808))), true), ((.lt (.ar .rem .u64 (.var 2 0 18446744073709551615) (.lit 4294967296)) (.lit 2147483648)), true), ((.lt (.ar .rem .u64 (.var 1 0 18446744073709551615) (.lit 4294967296)) (.lit 2147483648)), true), ((.lt (.conv .i32 (.var 2 0 18446744073709551615)) (.conv .i32 (.var 1 0 18446744073709551615))), false), ((.lt (.var 0 0 255) (.lit 74)), false), ((.lt (.var 0 0 255) (.lit 73)), false), ((.lt (.var 0 0 255) (.lit 75)), true), ((.lt (.var 0 0 255) (.lit 72)), false), ((.lt (.var 0 0 255) (.lit 78)), true), ((.lt (.var 0 0 255) (.lit 89)), true), ((.lt (.var 0 0 255) (.lit 67)), false)]) : False := by
  have h0 := hh _ _ (.head _)
  have h1 := hh _ _ (.tail _ (.head _))
  have h2 := hh _ _ (.tail _ (.tail _ (.head _)))
  have h3 := hh _ _ (.tail _ (.tail _ (.tail _ (.head _))))
  have h4 := hh _ _ (.tail _ (.tail _ (.tail _ (.tail _ (.head _)))))
  have h5 := hh _ _ (.tail _ (.tail _ (.tail _ (.tail _ (.tail _ (.head _))))))
  have h6 := hh _ _ (.tail _ (.tail _ (.tail _ (.tail _ (.tail _ (.tail _ (.head _)))))))
  have h7 := hh _ _ (.tail _ (.tail _ (.tail _ (.tail _ (.tail _ (.tail _ (.tail _ (.head _))))))))
  have h8 := hh _ _ (.tail _ (.tail _ (.tail _ (.tail _ (.tail _ (.tail _ (.tail _ (.tail _ (.head _)))))))))
  have h9 := hh _ _ (.tail _ (.tail _ (.tail _ (.tail _ (.tail _ (.tail _ (.tail _ (.tail _ (.tail _ (.head _))))))))))
  have h10 := hh _ _ (.tail _ (.tail _ (.tail _ (.tail _ (.tail _ (.tail _ (.tail _ (.tail _ (.tail _ (.tail _ (.head _)))))))))))
  have h11 := hh _ _ (.tail _ (.tail _ (.tail _ (.tail _ (.tail _ (.tail _ (.tail _ (.tail _ (.tail _ (.tail _ (.tail _ (.head _))))))))))))
  clear hh
  simp only [N.den, aRem, true_iff, Bool.false_eq_true, false_iff, bI_ne, ieq_iff, ilt_iff] at h0 h1 h2 h3 h4 h5 h6 h7 h8 h9 h10 h11
  generalize hA0 : max 0 (min 18446744073709551615 (i 1)) = a at *
  generalize hB0 : max 0 (min 18446744073709551615 (i 2)) = b at *
  generalize max 0 (min 255 (i 0)) = c at *
  have ha : 0 ≤ a ∧ a ≤ 18446744073709551615 := by omega
  have hb : 0 ≤ b ∧ b ≤ 18446744073709551615 := by omega
  clear hA0 hB0
  have ta : a.tmod 4294967296 = a % 4294967296 := Int.tmod_eq_emod_of_nonneg ha.1
  have tb : b.tmod 4294967296 = b % 4294967296 := Int.tmod_eq_emod_of_nonneg hb.1
  have oa := or_hi (a % 4294967296) (by omega) (by omega)
  have ob := or_hi (b % 4294967296) (by omega) (by omega)
  have xa := xor_top (a % 4294967296) (by omega) (by omega)
  have xb := xor_top (b % 4294967296) (by omega) (by omega)
  have xa2 := xor_top (a % 4294967296 + 18446744069414584320) (by omega) (by omega)
  have xb2 := xor_top (b % 4294967296 + 18446744069414584320) (by omega) (by omega)
  have xa3 := xor_top a ha.1 ha.2
  have xb3 := xor_top b hb.1 hb.2
  have wa := w_i32 a
  have wb := w_i32 b
  have va := w_i64 a
  have vb := w_i64 b
  simp only [ta, tb, xa, xb, w_u64] at h0 h1 h2 h3 h4 h5 h6 h7 h8 h9 h10 h11
  try simp (disch := omega) only [Int.tmod_eq_emod_of_nonneg] at h0 h1 h2 h3 h4 h5 h6 h7 h8 h9 h10 h11
  omega
theorem exc8_16 (i : Nat → Int) (hh : Holds i [((.eq (.conv .u64 (.conv .i32 (.var 1 0 18446744073709551615))) (.ar .rem .u64 (.var 1 0 18446744073709551615) (.lit 4294967296))), false), ((.eq (.conv .u32 (.var 1 0 18446744073709551615)) (.ar .rem .u64 (.ar .rem .u64 (.var 2 0 18446744073709551615) (.lit 4294967296)) (.lit 4294967296))), true), ((.lt (.ar .xor .u64 (.ar .rem .u64 (.var 1 0 18446744073709551615) (.lit 4294967296)) (.lit 9223372036854775808)) (.ar .xor .u64 (.ar .rem .u64 (.var 2 0 18446744073709551615) (.lit 4294967296)) (.lit 9223372036854775808))), false), ((.lt (.ar .rem .u64 (.var 2 0 18446744073709551615) (.lit 4294967296)) (.lit 2147483648)), true), ((.lt (.ar .rem .u64 (.var 1 0 18446744073709551615) (.lit 4294967296)) (.lit 2147483648)), true), ((.lt (.conv .i32 (.var 2 0 18446744073709551615)) (.conv .i32 (.var 1 0 18446744073709551615))), false), ((.lt (.var 0 0 255) (.lit 74)), false), ((.lt (.var 0 0 255) (.lit 73)), false), ((.lt (.var 0 0 255) (.lit 75)), true), ((.lt (.var 0 0 255) (.lit 72)), false), ((.lt (.var 0 0 255) (.lit 78)), true), ((.lt (.var 0 0 255) (.lit 89)), true), ((.lt (.var 0 0 255) (.lit 67)), false)]) : False := by
  have h0 := hh _ _ (.head _)
  have h1 := hh _ _ (.tail _ (.head _))
  have h2 := hh _ _ (.tail _ (.tail _ (.head _)))
  have h3 := hh _ _ (.tail _ (.tail _ (.tail _ (.head _))))
  have h4 := hh _ _ (.tail _ (.tail _ (.tail _ (.tail _ (.head _)))))
  have h5 := hh _ _ (.tail _ (.tail _ (.tail _ (.tail _ (.tail _ (.head _))))))
  have h6 := hh _ _ (.tail _ (.tail _ (.tail _ (.tail _ (.tail _ (.tail _ (.head _)))))))
  have h7 := hh _ _ (.tail _ (.tail _ (.tail _ (.tail _ (.tail _ (.tail _ (.tail _ (.head _))))))))
  have h8 := hh _ _ (.tail _ (.tail _ (.tail _ (.tail _ (.tail _ (.tail _ (.tail _ (.tail _ (.head _)))))))))
  have h9 := hh _ _ (.tail _ (.tail _ (.tail _ (.tail _ (.tail _ (.tail _ (.tail _ (.tail _ (.tail _ (.head _))))))))))
  have h10 := hh _ _ (.tail _ (.tail _ (.tail _ (.tail _ (.tail _ (.tail _ (.tail _ (.tail _ (.tail _ (.tail _ (.head _)))))))))))
  have h11 := hh _ _ (.tail _ (.tail _ (.tail _ (.tail _ (.tail _ (.tail _ (.tail _ (.tail _ (.tail _ (.tail _ (.tail _ (.head _))))))))))))
  have h12 := hh _ _ (.tail _ (.tail _ (.tail _ (.tail _ (.tail _ (.tail _ (.tail _ (.tail _ (.tail _ (.tail _ (.tail _ (.tail _ (.head _)))))))))))))
  clear hh
  simp only [N.den, aRem, true_iff, Bool.false_eq_true, false_iff, bI_ne, ieq_iff, ilt_iff] at h0 h1 h2 h3 h4 h5 h6 h7 h8 h9 h10 h11 h12
  generalize hA0 : max 0 (min 18446744073709551615 (i 1)) = a at *
  generalize hB0 : max 0 (min 18446744073709551615 (i 2)) = b at *
  generalize max 0 (min 255 (i 0)) = c at *
  have ha : 0 ≤ a ∧ a ≤ 18446744073709551615 := by omega
  have hb : 0 ≤ b ∧ b ≤ 18446744073709551615 := by omega
  clear hA0 hB0
  have ta : a.tmod 4294967296 = a % 4294967296 := Int.tmod_eq_emod_of_nonneg ha.1
  have tb : b.tmod 4294967296 = b % 4294967296 := Int.tmod_eq_emod_of_nonneg hb.1
  have oa := or_hi (a % 4294967296) (by omega) (by omega)
  have ob := or_hi (b % 4294967296) (by omega) (by omega)
  have xa := xor_top (a % 4294967296) (by omega) (by omega)
  have xb := xor_top (b % 4294967296) (by omega) (by omega)
  have xa2 := xor_top (a % 4294967296 + 18446744069414584320) (by omega) (by omega)
  have xb2 := xor_top (b % 4294967296 + 18446744069414584320) (by omega) (by omega)
  have xa3 := xor_top a ha.1 ha.2
  have xb3 := xor_top b hb.1 hb.2
  have wa := w_i32 a
  have wb := w_i32 b
  have va := w_i64 a
  have vb := w_i64 b
  simp only [ta, tb, xa, xb, w_u64, w_u32] at h0 h1 h2 h3 h4 h5 h6 h7 h8 h9 h10 h11 h12
  try simp (disch := omega) only [Int.tmod_eq_emod_of_nonneg] at h0 h1 h2 h3 h4 h5 h6 h7 h8 h9 h10 h11 h12
  omega
theorem exc8_17 (i : Nat → Int) (hh : Holds i [((.eq (.conv .u32 (.var 1 0 18446744073709551615)) (.ar .rem .u64 (.ar .rem .u64 (.var 2 0 18446744073709551615) (.lit 4294967296)) (.lit 4294967296))), false), ((.lt (.ar .xor .u64 (.ar .rem .u64 (.var 1 0 18446744073709551615) (.lit 4294967296)) (.lit 9223372036854775808)) (.ar .xor .u64 (.ar .rem .u64 (.var 2 0 18446744073709551615) (.lit 4294967296)) (.lit 9223372036854775808))), false), ((.lt (.ar .rem .u64 (.var 2 0 18446744073709551615) (.lit 4294967296)) (.lit 2147483648)), true), ((.lt (.ar .rem .u64 (.var 1 0 18446744073709551615) (.lit 4294967296)) (.lit 2147483648)), true), ((.lt (.conv .i32 (.var 2 0 18446744073709551615)) (.conv .i32 (.var 1 0 18446744073709551615))), false), ((.lt (.var 0 0 255) (.lit 74)), false), ((.lt (.var 0 0 255) (.lit 73)), false), ((.lt (.var 0 0 255) (.lit 75)), true), ((.lt (.var 0 0 255) (.lit 72)), false), ((.lt (.var 0 0 255) (.lit 78)), true), ((.lt (.var 0 0 255) (.lit 89)), true), ((.lt (.var 0 0 255) (.lit 67)), false)]) : False := by
  have h0 := hh _ _ (.head _)
  have h1 := hh _ _ (.tail _ (.head _))
  have h2 := hh _ _ (.tail _ (.tail _ (.head _)))
  have h3 := hh _ _ (.tail _ (.tail _ (.tail _ (.head _))))
  have h4 := hh _ _ (.tail _ (.tail _ (.tail _ (.tail _ (.head _)))))
  have h5 := hh _ _ (.tail _ (.tail _ (.tail _ (.tail _ (.tail _ (.head _))))))
  have h6 := hh _ _ (.tail _ (.tail _ (.tail _ (.tail _ (.tail _ (.tail _ (.head _)))))))
  have h7 := hh _ _ (.tail _ (.tail _ (.tail _ (.tail _ (.tail _ (.tail _ (.tail _ (.head _))))))))
  have h8 := hh _ _ (.tail _ (.tail _ (.tail _ (.tail _ (.tail _ (.tail _ (.tail _ (.tail _ (.head _)))))))))
  have h9 := hh _ _ (.tail _ (.tail _ (.tail _ (.tail _ (.tail _ (.tail _ (.tail _ (.tail _ (.tail _ (.head _))))))))))
  have h10 := hh _ _ (.tail _ (.tail _ (.tail _ (.tail _ (.tail _ (.tail _ (.tail _ (.tail _ (.tail _ (.tail _ (.head _)))))))))))
  have h11 := hh _ _ (.tail _ (.tail _ (.tail _ (.tail _ (.tail _ (.tail _ (.tail _ (.tail _ (.tail _ (.tail _ (.tail _ (.head _))))))))))))
  clear hh
  simp only [N.den, aRem, true_iff, Bool.false_eq_true, false_iff, bI_ne, ieq_iff, ilt_iff] at h0 h1 h2 h3 h4 h5 h6 h7 h8 h9 h10 h11
  generalize hA0 : max 0 (min 18446744073709551615 (i 1)) = a at *
  generalize hB0 : max 0 (min 18446744073709551615 (i 2)) = b at *
  generalize max 0 (min 255 (i 0)) = c at *
  have ha : 0 ≤ a ∧ a ≤ 18446744073709551615 := by omega
  have hb : 0 ≤ b ∧ b ≤ 18446744073709551615 := by omega
  clear hA0 hB0
  have ta : a.tmod 4294967296 = a % 4294967296 := Int.tmod_eq_emod_of_nonneg ha.1
  have tb : b.tmod 4294967296 = b % 4294967296 := Int.tmod_eq_emod_of_nonneg hb.1
  have oa := or_hi (a % 4294967296) (by omega) (by omega)
  have ob := or_hi (b % 4294967296) (by omega) (by omega)
  have xa := xor_top (a % 4294967296) (by omega) (by omega)
  have xb := xor_top (b % 4294967296) (by omega) (by omega)
  have xa2 := xor_top (a % 4294967296 + 18446744069414584320) (by omega) (by omega)
  have xb2 := xor_top (b % 4294967296 + 18446744069414584320) (by omega) (by omega)
  have xa3 := xor_top a ha.1 ha.2
  have xb3 := xor_top b hb.1 hb.2
  have wa := w_i32 a
  have wb := w_i32 b
  have va := w_i64 a
  have vb := w_i64 b
  simp only [ta, tb, xa, xb, w_u32] at h0 h1 h2 h3 h4 h5 h6 h7 h8 h9 h10 h11
  try simp (disch := omega) only [Int.tmod_eq_emod_of_nonneg] at h0 h1 h2 h3 h4 h5 h6 h7 h8 h9 h10 h11
  omega
theorem exc8_no : ∀ q ∈ exc8, ∀ i, ¬ Holds i q :=
  List.forall_mem_cons.2 ⟨exc8_0, List.forall_mem_cons.2 ⟨exc8_1, List.forall_mem_cons.2 ⟨exc8_2, List.forall_mem_cons.2 ⟨exc8_3, List.forall_mem_cons.2 ⟨exc8_4, List.forall_mem_cons.2 ⟨exc8_5, List.forall_mem_cons.2 ⟨exc8_6, List.forall_mem_cons.2 ⟨exc8_7, List.forall_mem_cons.2 ⟨exc8_8, List.forall_mem_cons.2 ⟨exc8_9, List.forall_mem_cons.2 ⟨exc8_10, List.forall_mem_cons.2 ⟨exc8_11, List.forall_mem_cons.2 ⟨exc8_12, List.forall_mem_cons.2 ⟨exc8_13, List.forall_mem_cons.2 ⟨exc8_14, List.forall_mem_cons.2 ⟨exc8_15, List.forall_mem_cons.2 ⟨exc8_16, List.forall_mem_cons.2 ⟨exc8_17, (fun p h => by cases h)⟩⟩⟩⟩⟩⟩⟩⟩⟩⟩⟩⟩⟩⟩⟩⟩⟩⟩
end Go.Proofs.YtaebmaahbkgcoaaGreat.Sx
