/- AmoMakes: what is excused can not be: a second part. -/
import Derived.Test.YtaebmaahbkgcoaaGreatEAmoMakesA
namespace Go.Proofs.YtaebmaahbkgcoaaGreat.Sx
open Go
set_option maxRecDepth 100000
theorem exc9_0 (i : Nat → Int) (hh : Holds i [((.eq (.conv .u64 (.conv .i32 (.var 1 0 18446744073709551615))) (.ar .or .u64 (.ar .rem .u64 (.var 1 0 18446744073709551615) (.lit 4294967296)) (.lit 18446744069414584320))), false), ((.eq (.conv .u32 (.var 2 0 18446744073709551615)) (.ar .rem .u64 (.ar .or .u64 (.ar .rem .u64 (.var 1 0 18446744073709551615) (.lit 4294967296)) (.lit 18446744069414584320)) (.lit 4294967296))), true), ((.lt (.ar .xor .u64 (.ar .or .u64 (.ar .rem .u64 (.var 2 0 18446744073709551615) (.lit 4294967296)) (.lit 18446744069414584320)) (.lit 9223372036854775808)) (.ar .xor .u64 (.ar .or .u64 (.ar .rem .u64 (.var 1 0 18446744073709551615) (.lit 4294967296)) (.lit 18446744069414584320)) (.lit 9223372036854775808))), true), ((.lt (.ar .rem .u64 (.var 2 0 18446744073709551615) (.lit 4294967296)) (.lit 2147483648)), false), ((.lt (.ar .rem .u64 (.var 1 0 18446744073709551615) (.lit 4294967296)) (.lit 2147483648)), false), ((.lt (.conv .i32 (.var 1 0 18446744073709551615)) (.conv .i32 (.var 2 0 18446744073709551615))), true), ((.lt (.var 0 0 255) (.lit 76)), true), ((.lt (.var 0 0 255) (.lit 75)), false), ((.lt (.var 0 0 255) (.lit 72)), false), ((.lt (.var 0 0 255) (.lit 78)), true), ((.lt (.var 0 0 255) (.lit 89)), true), ((.lt (.var 0 0 255) (.lit 67)), false)]) : False := by
  have h0 := hh _ _ (.head _)
  have h1 := hh _ _ (.tail _ (.head _))
  have h2 := hh _ _ (.tail _ (.tail _ (.head _)))
  have h3 := hh _ _ (.tail _ (.tail _ (.tail _ (.head _))))
  have h4 := hh _ _ (.tail _ (.tail _ (.tail _ (.tail _ (.head _)))))
  have h5 := hh _ _ (.tail _ (.tail _ (.tail _ (.tail _ (.tail _ (.head _))))))
  have h6 := hh _ _ (.tail _ (.tail _ (.tail _ (.tail _ (.tail _ (.tail _ (.head _)))))))
  have h7 := hh _ _ (.tail _ (.tail _ (.tail _ (.tail _ (.tail _ (.tail _ (.tail _ (.head _))))))))
  have h8 := hh _ _ (.tail _ (.tail _ (.tail _ (.tail _ (.tail _ (.tail _ (.tail _ (.tail _ (.head _)))))))))
  have h9 := hh _ _ (.tail _ (.tail _ (.tail _ (.tail _ (.tail _ (.tail _ (.tail _ (.tail _ (.tail _ (.head _))))))))))
  have h10 := hh _ _ (.tail _ (.tail _ (.tail _ (.tail _ (.tail _ (.tail _ (.tail _ (.tail _ (.tail _ (.tail _ (.head _)))))))))))
  have h11 := hh _ _ (.tail _ (.tail _ (.tail _ (.tail _ (.tail _ (.tail _ (.tail _ (.tail _ (.tail _ (.tail _ (.tail _ (.head _))))))))))))
  clear hh
  simp only [N.den, aRem, true_iff, Bool.false_eq_true, false_iff, bI_ne, ieq_iff, ilt_iff] at h0 h1 h2 h3 h4 h5 h6 h7 h8 h9 h10 h11
  generalize hA0 : max 0 (min 18446744073709551615 (i 1)) = a at *
  generalize hB0 : max 0 (min 18446744073709551615 (i 2)) = b at *
  generalize max 0 (min 255 (i 0)) = c at *
  have ha : 0 ≤ a ∧ a ≤ 18446744073709551615 := by omega
  have hb : 0 ≤ b ∧ b ≤ 18446744073709551615 := by omega
  clear hA0 hB0
  have ta : a.tmod 4294967296 = a % 4294967296 := Int.tmod_eq_emod_of_nonneg ha.1
  have tb : b.tmod 4294967296 = b % 4294967296 := Int.tmod_eq_emod_of_nonneg hb.1
  have oa := or_hi (a % 4294967296) (by omega) (by omega)
  have ob := or_hi (b % 4294967296) (by omega) (by omega)
  have xa := xor_top (a % 4294967296) (by omega) (by omega)
  have xb := xor_top (b % 4294967296) (by omega) (by omega)
  have xa2 := xor_top (a % 4294967296 + 18446744069414584320) (by omega) (by omega)
  have xb2 := xor_top (b % 4294967296 + 18446744069414584320) (by omega) (by omega)
  have xa3 := xor_top a ha.1 ha.2
  have xb3 := xor_top b hb.1 hb.2
  have wa := w_i32 a
  have wb := w_i32 b
  have va := w_i64 a
  have vb := w_i64 b
  simp only [ta, tb, oa, ob, xa2, xb2, w_u64, w_u32] at h0 h1 h2 h3 h4 h5 h6 h7 h8 h9 h10 h11
  try simp (disch := omega) only [Int.tmod_eq_emod_of_nonneg] at h0 h1 h2 h3 h4 h5 h6 h7 h8 h9 h10 h11
  omega
theorem exc9_1 (i : Nat → Int) (hh : Holds i [((.eq (.conv .u32 (.var 2 0 18446744073709551615)) (.ar .rem .u64 (.ar .or .u64 (.ar .rem .u64 (.var 1 0 18446744073709551615) (.lit 4294967296)) (.lit 18446744069414584320)) (.lit 4294967296))), false), ((.lt (.ar .xor .u64 (.ar .or .u64 (.ar .rem .u64 (.var 2 0 18446744073709551615) (.lit 4294967296)) (.lit 18446744069414584320)) (.lit 9223372036854775808)) (.ar .xor .u64 (.ar .or .u64 (.ar .rem .u64 (.var 1 0 18446744073709551615) (.lit 4294967296)) (.lit 18446744069414584320)) (.lit 9223372036854775808))), true), ((.lt (.ar .rem .u64 (.var 2 0 18446744073709551615) (.lit 4294967296)) (.lit 2147483648)), false), ((.lt (.ar .rem .u64 (.var 1 0 18446744073709551615) (.lit 4294967296)) (.lit 2147483648)), false), ((.lt (.conv .i32 (.var 1 0 18446744073709551615)) (.conv .i32 (.var 2 0 18446744073709551615))), true), ((.lt (.var 0 0 255) (.lit 76)), true), ((.lt (.var 0 0 255) (.lit 75)), false), ((.lt (.var 0 0 255) (.lit 72)), false), ((.lt (.var 0 0 255) (.lit 78)), true), ((.lt (.var 0 0 255) (.lit 89)), true), ((.lt (.var 0 0 255) (.lit 67)), false)]) : False := by
  have h0 := hh _ _ (.head _)
  have h1 := hh _ _ (.tail _ (.head _))
  have h2 := hh _ _ (.tail _ (.tail _ (.head _)))
  have h3 := hh _ _ (.tail _ (.tail _ (.tail _ (.head _))))
  have h4 := hh _ _ (.tail _ (.tail _ (.tail _ (.tail _ (.head _)))))
  have h5 := hh _ _ (.tail _ (.tail _ (.tail _ (.tail _ (.tail _ (.head _))))))
  have h6 := hh _ _ (.tail _ (.tail _ (.tail _ (.tail _ (.tail _ (.tail _ (.head _)))))))
  have h7 := hh _ _ (.tail _ (.tail _ (.tail _ (.tail _ (.tail _ (.tail _ (.tail _ (.head _))))))))
  have h8 := hh _ _ (.tail _ (.tail _ (.tail _ (.tail _ (.tail _ (.tail _ (.tail _ (.tail _ (.head _)))))))))
  have h9 := hh _ _ (.tail _ (.tail _ (.tail _ (.tail _ (.tail _ (.tail _ (.tail _ (.tail _ (.tail _ (.head _))))))))))
  have h10 := hh _ _ (.tail _ (.tail _ (.tail _ (.tail _ (.tail _ (.tail _ (.tail _ (.tail _ (.tail _ (.tail _ (.head _)))))))))))
  clear hh
  simp only [N.den, aRem, true_iff, Bool.false_eq_true, false_iff, bI_ne, ieq_iff, ilt_iff] at h0 h1 h2 h3 h4 h5 h6 h7 h8 h9 h10
  generalize hA0 : max 0 (min 18446744073709551615 (i 1)) = a at *
  generalize hB0 : max 0 (min 18446744073709551615 (i 2)) = b at *
  generalize max 0 (min 255 (i 0)) = c at *
  have ha : 0 ≤ a ∧ a ≤ 18446744073709551615 := by omega
  have hb : 0 ≤ b ∧ b ≤ 18446744073709551615 := by omega
  clear hA0 hB0
  have ta : a.tmod 4294967296 = a % 4294967296 := Int.tmod_eq_emod_of_nonneg ha.1
  have tb : b.tmod 4294967296 = b % 4294967296 := Int.tmod_eq_emod_of_nonneg hb.1
  have oa := or_hi (a % 4294967296) (by omega) (by omega)
  have ob := or_hi (b % 4294967296) (by omega) (by omega)
  have xa := xor_top (a % 4294967296) (by omega) (by omega)
  have xb := xor_top (b % 4294967296) (by omega) (by omega)
  have xa2 := xor_top (a % 4294967296 + 18446744069414584320) (by omega) (by omega)
  have xb2 := xor_top (b % 4294967296 + 18446744069414584320) (by omega) (by omega)
  have xa3 := xor_top a ha.1 ha.2
  have xb3 := xor_top b hb.1 hb.2
  have wa := w_i32 a
  have wb := w_i32 b
  have va := w_i64 a
  have vb := w_i64 b
  simp only [ta, tb, oa, ob, xa2, xb2, w_u32] at h0 h1 h2 h3 h4 h5 h6 h7 h8 h9 h10
  try simp (disch := omega) only [Int.tmod_eq_emod_of_nonneg] at h0 h1 h2 h3 h4 h5 h6 h7 h8 h9 h10
  omega
theorem exc9_2 (i : Nat → Int) (hh : Holds i [((.eq (.conv .u64 (.conv .i32 (.var 1 0 18446744073709551615))) (.ar .or .u64 (.ar .rem .u64 (.var 1 0 18446744073709551615) (.lit 4294967296)) (.lit 18446744069414584320))), false), ((.lt (.ar .xor .u64 (.ar .or .u64 (.ar .rem .u64 (.var 2 0 18446744073709551615) (.lit 4294967296)) (.lit 18446744069414584320)) (.lit 9223372036854775808)) (.ar .xor .u64 (.ar .or .u64 (.ar .rem .u64 (.var 1 0 18446744073709551615) (.lit 4294967296)) (.lit 18446744069414584320)) (.lit 9223372036854775808))), false), ((.lt (.ar .rem .u64 (.var 2 0 18446744073709551615) (.lit 4294967296)) (.lit 2147483648)), false), ((.lt (.ar .rem .u64 (.var 1 0 18446744073709551615) (.lit 4294967296)) (.lit 2147483648)), false), ((.lt (.conv .i32 (.var 1 0 18446744073709551615)) (.conv .i32 (.var 2 0 18446744073709551615))), true), ((.lt (.var 0 0 255) (.lit 76)), true), ((.lt (.var 0 0 255) (.lit 75)), false), ((.lt (.var 0 0 255) (.lit 72)), false), ((.lt (.var 0 0 255) (.lit 78)), true), ((.lt (.var 0 0 255) (.lit 89)), true), ((.lt (.var 0 0 255) (.lit 67)), false)]) : False := by
  have h0 := hh _ _ (.head _)
  have h1 := hh _ _ (.tail _ (.head _))
  have h2 := hh _ _ (.tail _ (.tail _ (.head _)))
  have h3 := hh _ _ (.tail _ (.tail _ (.tail _ (.head _))))
  have h4 := hh _ _ (.tail _ (.tail _ (.tail _ (.tail _ (.head _)))))
  have h5 := hh _ _ (.tail _ (.tail _ (.tail _ (.tail _ (.tail _ (.head _))))))
  have h6 := hh _ _ (.tail _ (.tail _ (.tail _ (.tail _ (.tail _ (.tail _ (.head _)))))))
  have h7 := hh _ _ (.tail _ (.tail _ (.tail _ (.tail _ (.tail _ (.tail _ (.tail _ (.head _))))))))
  have h8 := hh _ _ (.tail _ (.tail _ (.tail _ (.tail _ (.tail _ (.tail _ (.tail _ (.tail _ (.head _)))))))))
  have h9 := hh _ _ (.tail _ (.tail _ (.tail _ (.tail _ (.tail _ (.tail _ (.tail _ (.tail _ (.tail _ (.head _))))))))))
  have h10 := hh _ _ (.tail _ (.tail _ (.tail _ (.tail _ (.tail _ (.tail _ (.tail _ (.tail _ (.tail _ (.tail _ (.head _)))))))))))
  clear hh
  simp only [N.den, aRem, true_iff, Bool.false_eq_true, false_iff, bI_ne, ieq_iff, ilt_iff] at h0 h1 h2 h3 h4 h5 h6 h7 h8 h9 h10
  generalize hA0 : max 0 (min 18446744073709551615 (i 1)) = a at *
  generalize hB0 : max 0 (min 18446744073709551615 (i 2)) = b at *
  generalize max 0 (min 255 (i 0)) = c at *
  have ha : 0 ≤ a ∧ a ≤ 18446744073709551615 := by omega
  have hb : 0 ≤ b ∧ b ≤ 18446744073709551615 := by omega
  clear hA0 hB0
  have ta : a.tmod 4294967296 = a % 4294967296 := Int.tmod_eq_emod_of_nonneg ha.1
  have tb : b.tmod 4294967296 = b % 4294967296 := Int.tmod_eq_emod_of_nonneg hb.1
  have oa := or_hi (a % 4294967296) (by omega) (by omega)
  have ob := or_hi (b % 4294967296) (by omega) (by omega)
  have xa := xor_top (a % 4294967296) (by omega) (by omega)
  have xb := xor_top (b % 4294967296) (by omega) (by omega)
  have xa2 := xor_top (a % 4294967296 + 18446744069414584320) (by omega) (by omega)
  have xb2 := xor_top (b % 4294967296 + 18446744069414584320) (by omega) (by omega)
  have xa3 := xor_top a ha.1 ha.2
  have xb3 := xor_top b hb.1 hb.2
  have wa := w_i32 a
  have wb := w_i32 b
  have va := w_i64 a
  have vb := w_i64 b
  simp only [ta, tb, oa, ob, xa2, xb2, w_u64] at h0 h1 h2 h3 h4 h5 h6 h7 h8 h9 h10
  try simp (disch := omega) only [Int.tmod_eq_emod_of_nonneg] at h0 h1 h2 h3 h4 h5 h6 h7 h8 h9 h10
  omega
theorem exc9_3 (i : Nat → Int) (hh : Holds i [((.eq (.conv .u64 (.conv .i32 (.var 1 0 18446744073709551615))) (.ar .or .u64 (.ar .rem .u64 (.var 1 0 18446744073709551615) (.lit 4294967296)) (.lit 18446744069414584320))), false), ((.lt (.ar .rem .u64 (.var 2 0 18446744073709551615) (.lit 4294967296)) (.lit 2147483648)), true), ((.lt (.ar .rem .u64 (.var 1 0 18446744073709551615) (.lit 4294967296)) (.lit 2147483648)), false), ((.lt (.conv .i32 (.var 1 0 18446744073709551615)) (.conv .i32 (.var 2 0 18446744073709551615))), true), ((.lt (.var 0 0 255) (.lit 76)), true), ((.lt (.var 0 0 255) (.lit 75)), false), ((.lt (.var 0 0 255) (.lit 72)), false), ((.lt (.var 0 0 255) (.lit 78)), true), ((.lt (.var 0 0 255) (.lit 89)), true), ((.lt (.var 0 0 255) (.lit 67)), false)]) : False := by
  have h0 := hh _ _ (.head _)
  have h1 := hh _ _ (.tail _ (.head _))
  have h2 := hh _ _ (.tail _ (.tail _ (.head _)))
  have h3 := hh _ _ (.tail _ (.tail _ (.tail _ (.head _))))
  have h4 := hh _ _ (.tail _ (.tail _ (.tail _ (.tail _ (.head _)))))
  have h5 := hh _ _ (.tail _ (.tail _ (.tail _ (.tail _ (.tail _ (.head _))))))
  have h6 := hh _ _ (.tail _ (.tail _ (.tail _ (.tail _ (.tail _ (.tail _ (.head _)))))))
  have h7 := hh _ _ (.tail _ (.tail _ (.tail _ (.tail _ (.tail _ (.tail _ (.tail _ (.head _))))))))
  have h8 := hh _ _ (.tail _ (.tail _ (.tail _ (.tail _ (.tail _ (.tail _ (.tail _ (.tail _ (.head _)))))))))
  have h9 := hh _ _ (.tail _ (.tail _ (.tail _ (.tail _ (.tail _ (.tail _ (.tail _ (.tail _ (.tail _ (.head _))))))))))
  clear hh
  simp only [N.den, aRem, true_iff, Bool.false_eq_true, false_iff, bI_ne, ieq_iff, ilt_iff] at h0 h1 h2 h3 h4 h5 h6 h7 h8 h9
  generalize hA0 : max 0 (min 18446744073709551615 (i 1)) = a at *
  generalize hB0 : max 0 (min 18446744073709551615 (i 2)) = b at *
  generalize max 0 (min 255 (i 0)) = c at *
  have ha : 0 ≤ a ∧ a ≤ 18446744073709551615 := by omega
  have hb : 0 ≤ b ∧ b ≤ 18446744073709551615 := by omega
  clear hA0 hB0
  have ta : a.tmod 4294967296 = a % 4294967296 := Int.tmod_eq_emod_of_nonneg ha.1
  have tb : b.tmod 4294967296 = b % 4294967296 := Int.tmod_eq_emod_of_nonneg hb.1
  have oa := or_hi (a % 4294967296) (by omega) (by omega)
  have ob := or_hi (b % 4294967296) (by omega) (by omega)
  have xa := xor_top (a % 4294967296) (by omega) (by omega)
  have xb := xor_top (b % 4294967296) (by omega) (by omega)
  have xa2 := xor_top (a % 4294967296 + 18446744069414584320) (by omega) (by omega)
  have xb2 := xor_top (b % 4294967296 + 18446744069414584320) (by omega) (by omega)
  have xa3 := xor_top a ha.1 ha.2
  have xb3 := xor_top b hb.1 hb.2
  have wa := w_i32 a
  have wb := w_i32 b
  have va := w_i64 a
  have vb := w_i64 b
  simp only [ta, tb, oa, w_u64] at h0 h1 h2 h3 h4 h5 h6 h7 h8 h9
  try simp (disch := omega) only [Int.tmod_eq_emod_of_nonneg] at h0 h1 h2 h3 h4 h5 h6 h7 h8 h9
  omega
theorem exc9_4 (i : Nat → Int) (hh : Holds i [((.eq (.conv .u64 (.conv .i32 (.var 1 0 18446744073709551615))) (.ar .rem .u64 (.var 1 0 18446744073709551615) (.lit 4294967296))), false), ((.eq (.conv .u32 (.var 2 0 18446744073709551615)) (.ar .rem .u64 (.ar .rem .u64 (.var 1 0 18446744073709551615) (.lit 4294967296)) (.lit 4294967296))), true), ((.lt (.ar .rem .u64 (.var 2 0 18446744073709551615) (.lit 4294967296)) (.lit 2147483648)), false), ((.lt (.ar .rem .u64 (.var 1 0 18446744073709551615) (.lit 4294967296)) (.lit 2147483648)), true), ((.lt (.conv .i32 (.var 1 0 18446744073709551615)) (.conv .i32 (.var 2 0 18446744073709551615))), true), ((.lt (.var 0 0 255) (.lit 76)), true), ((.lt (.var 0 0 255) (.lit 75)), false), ((.lt (.var 0 0 255) (.lit 72)), false), ((.lt (.var 0 0 255) (.lit 78)), true), ((.lt (.var 0 0 255) (.lit 89)), true), ((.lt (.var 0 0 255) (.lit 67)), false)]) : False := by
  have h0 := hh _ _ (.head _)
  have h1 := hh _ _ (.tail _ (.head _))
  have h2 := hh _ _ (.tail _ (.tail _ (.head _)))
  have h3 := hh _ _ (.tail _ (.tail _ (.tail _ (.head _))))
  have h4 := hh _ _ (.tail _ (.tail _ (.tail _ (.tail _ (.head _)))))
  have h5 := hh _ _ (.tail _ (.tail _ (.tail _ (.tail _ (.tail _ (.head _))))))
  have h6 := hh _ _ (.tail _ (.tail _ (.tail _ (.tail _ (.tail _ (.tail _ (.head _)))))))
  have h7 := hh _ _ (.tail _ (.tail _ (.tail _ (.tail _ (.tail _ (.tail _ (.tail _ (.head _))))))))
  have h8 := hh _ _ (.tail _ (.tail _ (.tail _ (.tail _ (.tail _ (.tail _ (.tail _ (.tail _ (.head _)))))))))
  have h9 := hh _ _ (.tail _ (.tail _ (.tail _ (.tail _ (.tail _ (.tail _ (.tail _ (.tail _ (.tail _ (.head _))))))))))
  have h10 := hh _ _ (.tail _ (.tail _ (.tail _ (.tail _ (.tail _ (.tail _ (.tail _ (.tail _ (.tail _ (.tail _ (.head _)))))))))))
  clear hh
  simp only [N.den, aRem, true_iff, Bool.false_eq_true, false_iff, bI_ne, ieq_iff, ilt_iff] at h0 h1 h2 h3 h4 h5 h6 h7 h8 h9 h10
  generalize hA0 : max 0 (min 18446744073709551615 (i 1)) = a at *
  generalize hB0 : max 0 (min 18446744073709551615 (i 2)) = b at *
  generalize max 0 (min 255 (i 0)) = c at *
  have ha : 0 ≤ a ∧ a ≤ 18446744073709551615 := by omega
  have hb : 0 ≤ b ∧ b ≤ 18446744073709551615 := by omega
  clear hA0 hB0
  have ta : a.tmod 4294967296 = a % 4294967296 := Int.tmod_eq_emod_of_nonneg ha.1
  have tb : b.tmod 4294967296 = b % 4294967296 := Int.tmod_eq_emod_of_nonneg hb.1
  have oa := or_hi (a % 4294967296) (by omega) (by omega)
  have ob := or_hi (b % 4294967296) (by omega) (by omega)
  have xa := xor_top (a % 4294967296) (by omega) (by omega)
  have xb := xor_top (b % 4294967296) (by omega) (by omega)
  have xa2 := xor_top (a % 4294967296 + 18446744069414584320) (by omega) (by omega)
  have xb2 := xor_top (b % 4294967296 + 18446744069414584320) (by omega) (by omega)
  have xa3 := xor_top a ha.1 ha.2
  have xb3 := xor_top b hb.1 hb.2
  have wa := w_i32 a
  have wb := w_i32 b
  have va := w_i64 a
  have vb := w_i64 b
  simp only [ta, tb, w_u64, w_u32] at h0 h1 h2 h3 h4 h5 h6 h7 h8 h9 h10
  try simp (disch := omega) only [Int.tmod_eq_emod_of_nonneg] at h0 h1 h2 h3 h4 h5 h6 h7 h8 h9 h10
  omega
theorem exc9_5 (i : Nat → Int) (hh : Holds i [((.eq (.conv .u32 (.var 2 0 18446744073709551615)) (.ar .rem .u64 (.ar .rem .u64 (.var 1 0 18446744073709551615) (.lit 4294967296)) (.lit 4294967296))), false), ((.lt (.ar .rem .u64 (.var 2 0 18446744073709551615) (.lit 4294967296)) (.lit 2147483648)), false), ((.lt (.ar .rem .u64 (.var 1 0 18446744073709551615) (.lit 4294967296)) (.lit 2147483648)), true), ((.lt (.conv .i32 (.var 1 0 18446744073709551615)) (.conv .i32 (.var 2 0 18446744073709551615))), true), ((.lt (.var 0 0 255) (.lit 76)), true), ((.lt (.var 0 0 255) (.lit 75)), false), ((.lt (.var 0 0 255) (.lit 72)), false), ((.lt (.var 0 0 255) (.lit 78)), true), ((.lt (.var 0 0 255) (.lit 89)), true), ((.lt (.var 0 0 255) (.lit 67)), false)]) : False := by
  have h0 := hh _ _ (.head _)
  have h1 := hh _ _ (.tail _ (.head _))
  have h2 := hh _ _ (.tail _ (.tail _ (.head _)))
  have h3 := hh _ _ (.tail _ (.tail _ (.tail _ (.head _))))
  have h4 := hh _ _ (.tail _ (.tail _ (.tail _ (.tail _ (.head _)))))
  have h5 := hh _ _ (.tail _ (.tail _ (.tail _ (.tail _ (.tail _ (.head _))))))
  have h6 := hh _ _ (.tail _ (.tail _ (.tail _ (.tail _ (.tail _ (.tail _ (.head _)))))))
  have h7 := hh _ _ (.tail _ (.tail _ (.tail _ (.tail _ (.tail _ (.tail _ (.tail _ (.head _))))))))
  have h8 := hh _ _ (.tail _ (.tail _ (.tail _ (.tail _ (.tail _ (.tail _ (.tail _ (.tail _ (.head _)))))))))
  have h9 := hh _ _ (.tail _ (.tail _ (.tail _ (.tail _ (.tail _ (.tail _ (.tail _ (.tail _ (.tail _ (.head _))))))))))
  clear hh
  simp only [N.den, aRem, true_iff, Bool.false_eq_true, false_iff, bI_ne, ieq_iff, ilt_iff] at h0 h1 h2 h3 h4 h5 h6 h7 h8 h9
  generalize hA0 : max 0 (min 18446744073709551615 (i 1)) = a at *
  generalize hB0 : max 0 (min 18446744073709551615 (i 2)) = b at *
  generalize max 0 (min 255 (i 0)) = c at *
  have ha : 0 ≤ a ∧ a ≤ 18446744073709551615 := by omega
  have hb : 0 ≤ b ∧ b ≤ 18446744073709551615 := by omega
  clear hA0 hB0
  have ta : a.tmod 4294967296 = a % 4294967296 := Int.tmod_eq_emod_of_nonneg ha.1
  have tb : b.tmod 4294967296 = b % 4294967296 := Int.tmod_eq_emod_of_nonneg hb.1
  have oa := or_hi (a % 4294967296) (by omega) (by omega)
  have ob := or_hi (b % 4294967296) (by omega) (by omega)
  have xa := xor_top (a % 4294967296) (by omega) (by omega)
  have xb := xor_top (b % 4294967296) (by omega) (by omega)
  have xa2 := xor_top (a % 4294967296 + 18446744069414584320) (by omega) (by omega)
  have xb2 := xor_top (b % 4294967296 + 18446744069414584320) (by omega) (by omega)
  have xa3 := xor_top a ha.1 ha.2
  have xb3 := xor_top b hb.1 hb.2
  have wa := w_i32 a
  have wb := w_i32 b
  have va := w_i64 a
  have vb := w_i64 b
  simp only [ta, tb, w_u32] at h0 h1 h2 h3 h4 h5 h6 h7 h8 h9
  try simp (disch := omega) only [Int.tmod_eq_emod_of_nonneg] at h0 h1 h2 h3 h4 h5 h6 h7 h8 h9
  omega
theorem exc9_6 (i : Nat → Int) (hh : Holds i [((.eq (.conv .u64 (.conv .i32 (.var 1 0 18446744073709551615))) (.ar .rem .u64 (.var 1 0 18446744073709551615) (.lit 4294967296))), false), ((.eq (.conv .u32 (.var 2 0 18446744073709551615)) (.ar .rem .u64 (.ar .rem .u64 (.var 1 0 18446744073709551615) (.lit 4294967296)) (.lit 4294967296))), true), ((.lt (.ar .xor .u64 (.ar .rem .u64 (.var 2 0 18446744073709551615) (.lit 4294967296)) (.lit 9223372036854775808)) (.ar .xor .u64 (.ar .rem .u64 (.var 1 0 18446744073709551615) (.lit 4294967296)) (.lit 9223372036854775808))), true), ((.lt (.ar .rem .u64 (.var 2 0 18446744073709551615) (.lit 4294967296)) (.lit 2147483648)), true), ((.lt (.ar .rem .u64 (.var 1 0 18446744073709551615) (.lit 4294967296)) (.lit 2147483648)), true), ((.lt (.conv .i32 (.var 1 0 18446744073709551615)) (.conv .i32 (.var 2 0 18446744073709551615))), true), ((.lt (.var 0 0 255) (.lit 76)), true), ((.lt (.var 0 0 255) (.lit 75)), false), ((.lt (.var 0 0 255) (.lit 72)), false), ((.lt (.var 0 0 255) (.lit 78)), true), ((.lt (.var 0 0 255) (.lit 89)), true), ((.lt (.var 0 0 255) (.lit 67)), false)]) : False := by
  have h0 := hh _ _ (.head _)
  have h1 := hh _ _ (.tail _ (.head _))
  have h2 := hh _ _ (.tail _ (.tail _ (.head _)))
  have h3 := hh _ _ (.tail _ (.tail _ (.tail _ (.head _))))
  have h4 := hh _ _ (.tail _ (.tail _ (.tail _ (.tail _ (.head _)))))
  have h5 := hh _ _ (.tail _ (.tail _ (.tail _ (.tail _ (.tail _ (.head _))))))
  have h6 := hh _ _ (.tail _ (.tail _ (.tail _ (.tail _ (.tail _ (.tail _ (.head _)))))))
  have h7 := hh _ _ (.tail _ (.tail _ (.tail _ (.tail _ (.tail _ (.tail _ (.tail _ (.head _))))))))
  have h8 := hh _ _ (.tail _ (.tail _ (.tail _ (.tail _ (.tail _ (.tail _ (.tail _ (.tail _ (.head _)))))))))
  have h9 := hh _ _ (.tail _ (.tail _ (.tail _ (.tail _ (.tail _ (.tail _ (.tail _ (.tail _ (.tail _ (.head _))))))))))
  have h10 := hh _ _ (.tail _ (.tail _ (.tail _ (.tail _ (.tail _ (.tail _ (.tail _ (.tail _ (.tail _ (.tail _ (.head _)))))))))))
  have h11 := hh _ _ (.tail _ (.tail _ (.tail _ (.tail _ (.tail _ (.tail _ (.tail _ (.tail _ (.tail _ (.tail _ (.tail _ (.head _))))))))))))
  clear hh
  simp only [N.den, aRem, true_iff, Bool.false_eq_true, false_iff, bI_ne, ieq_iff, ilt_iff] at h0 h1 h2 h3 h4 h5 h6 h7 h8 h9 h10 h11
  generalize hA0 : max 0 (min 18446744073709551615 (i 1)) = a at *
  generalize hB0 : max 0 (min 18446744073709551615 (i 2)) = b at *
  generalize max 0 (min 255 (i 0)) = c at *
  have ha : 0 ≤ a ∧ a ≤ 18446744073709551615 := by omega
  have hb : 0 ≤ b ∧ b ≤ 18446744073709551615 := by omega
  clear hA0 hB0
  have ta : a.tmod 4294967296 = a % 4294967296 := Int.tmod_eq_emod_of_nonneg ha.1
  have tb : b.tmod 4294967296 = b % 4294967296 := Int.tmod_eq_emod_of_nonneg hb.1
  have oa := or_hi (a % 4294967296) (by omega) (by omega)
  have ob := or_hi (b % 4294967296) (by omega) (by omega)
  have xa := xor_top (a % 4294967296) (by omega) (by omega)
  have xb := xor_top (b % 4294967296) (by omega) (by omega)
  have xa2 := xor_top (a % 4294967296 + 18446744069414584320) (by omega) (by omega)
  have xb2 := xor_top (b % 4294967296 + 18446744069414584320) (by omega) (by omega)
  have xa3 := xor_top a ha.1 ha.2
  have xb3 := xor_top b hb.1 hb.2
  have wa := w_i32 a
  have wb := w_i32 b
  have va := w_i64 a
  have vb := w_i64 b
  simp only [ta, tb, xa, xb, w_u64, w_u32] at h0 h1 h2 h3 h4 h5 h6 h7 h8 h9 h10 h11
  try simp (disch := omega) only [Int.tmod_eq_emod_of_nonneg] at h0 h1 h2 h3 h4 h5 h6 h7 h8 h9 h10 h11
  omega
theorem exc9_7 (i : Nat → Int) (hh : Holds i [((.eq (.conv .u32 (.var 2 0 18446744073709551615)) (.ar .rem .u64 (.ar .rem .u64 (.var 1 0 18446744073709551615) (.lit 4294967296)) (.lit 4294967296))), false), ((.lt (.ar .xor .u64 (.ar .rem .u64 (.var 2 0 18446744073709551615) (.lit 4294967296)) (.lit 9223372036854775808)) (.ar .xor .u64 (.ar .rem .u64 (.var 1 0 18446744073709551615) (.lit 4294967296)) (.lit 9223372036854775808))), true), ((.lt (.ar .rem .u64 (.var 2 0 18446744073709551615) (.lit 4294967296)) (.lit 2147483648)), true), ((.lt (.ar .rem .u64 (.var 1 0 18446744073709551615) (.lit 4294967296)) (.lit 2147483648)), true), ((.lt (.conv .i32 (.var 1 0 18446744073709551615)) (.conv .i32 (.var 2 0 18446744073709551615))), true), ((.lt (.var 0 0 255) (.lit 76)), true), ((.lt (.var 0 0 255) (.lit 75)), false), ((.lt (.var 0 0 255) (.lit 72)), false), ((.lt (.var 0 0 255) (.lit 78)), true), ((.lt (.var 0 0 255) (.lit 89)), true), ((.lt (.var 0 0 255) (.lit 67)), false)]) : False := by
  have h0 := hh _ _ (.head _)
  have h1 := hh _ _ (.tail _ (.head _))
  have h2 := hh _ _ (.tail _ (.tail _ (.head _)))
  have h3 := hh _ _ (.tail _ (.tail _ (.tail _ (.head _))))
  have h4 := hh _ _ (.tail _ (.tail _ (.tail _ (.tail _ (.head _)))))
  have h5 := hh _ _ (.tail _ (.tail _ (.tail _ (.tail _ (.tail _ (.head _))))))
  have h6 := hh _ _ (.tail _ (.tail _ (.tail _ (.tail _ (.tail _ (.tail _ (.head _)))))))
  have h7 := hh _ _ (.tail _ (.tail _ (.tail _ (.tail _ (.tail _ (.tail _ (.tail _ (.head _))))))))
  have h8 := hh _ _ (.tail _ (.tail _ (.tail _ (.tail _ (.tail _ (.tail _ (.tail _ (.tail _ (.head _)))))))))
  have h9 := hh _ _ (.tail _ (.tail _ (.tail _ (.tail _ (.tail _ (.tail _ (.tail _ (.tail _ (.tail _ (.head _))))))))))
  have h10 := hh _ _ (.tail _ (.tail _ (.tail _ (.tail _ (.tail _ (.tail _ (.tail _ (.tail _ (.tail _ (.tail _ (.head _)))))))))))
  clear hh
  simp only [N.den, aRem, true_iff, Bool.false_eq_true, false_iff, bI_ne, ieq_iff, ilt_iff] at h0 h1 h2 h3 h4 h5 h6 h7 h8 h9 h10
  generalize hA0 : max 0 (min 18446744073709551615 (i 1)) = a at *
  generalize hB0 : max 0 (min 18446744073709551615 (i 2)) = b at *
  generalize max 0 (min 255 (i 0)) = c at *
  have ha : 0 ≤ a ∧ a ≤ 18446744073709551615 := by omega
  have hb : 0 ≤ b ∧ b ≤ 18446744073709551615 := by omega
  clear hA0 hB0
  have ta : a.tmod 4294967296 = a % 4294967296 := Int.tmod_eq_emod_of_nonneg ha.1
  have tb : b.tmod 4294967296 = b % 4294967296 := Int.tmod_eq_emod_of_nonneg hb.1
  have oa := or_hi (a % 4294967296) (by omega) (by omega)
  have ob := or_hi (b % 4294967296) (by omega) (by omega)
  have xa := xor_top (a % 4294967296) (by omega) (by omega)
  have xb := xor_top (b % 4294967296) (by omega) (by omega)
  have xa2 := xor_top (a % 4294967296 + 18446744069414584320) (by omega) (by omega)
  have xb2 := xor_top (b % 4294967296 + 18446744069414584320) (by omega) (by omega)
  have xa3 := xor_top a ha.1 ha.2
  have xb3 := xor_top b hb.1 hb.2
  have wa := w_i32 a
  have wb := w_i32 b
  have va := w_i64 a
  have vb := w_i64 b
  simp only [ta, tb, xa, xb, w_u32] at h0 h1 h2 h3 h4 h5 h6 h7 h8 h9 h10
  try simp (disch := omega) only [Int.tmod_eq_emod_of_nonneg] at h0 h1 h2 h3 h4 h5 h6 h7 h8 h9 h10
  omega
theorem exc9_8 (i : Nat → Int) (hh : Holds i [((.eq (.conv .u64 (.conv .i32 (.var 1 0 18446744073709551615))) (.ar .rem .u64 (.var 1 0 18446744073709551615) (.lit 4294967296))), false), ((.lt (.ar .xor .u64 (.ar .rem .u64 (.var 2 0 18446744073709551615) (.lit 4294967296)) (.lit 9223372036854775808)) (.ar .xor .u64 (.ar .rem .u64 (.var 1 0 18446744073709551615) (.lit 4294967296)) (.lit 9223372036854775808))), false), ((.lt (.ar .rem .u64 (.var 2 0 18446744073709551615) (.lit 4294967296)) (.lit 2147483648)), true), ((.lt (.ar .rem .u64 (.var 1 0 18446744073709551615) (.lit 4294967296)) (.lit 2147483648)), true), ((.lt (.conv .i32 (.var 1 0 18446744073709551615)) (.conv .i32 (.var 2 0 18446744073709551615))), true), ((.lt (.var 0 0 255) (.lit 76)), true), ((.lt (.var 0 0 255) (.lit 75)), false), ((.lt (.var 0 0 255) (.lit 72)), false), ((.lt (.var 0 0 255) (.lit 78)), true), ((.lt (.var 0 0 255) (.lit 89)), true), ((.lt (.var 0 0 255) (.lit 67)), false)]) : False := by
  have h0 := hh _ _ (.head _)
  have h1 := hh _ _ (.tail _ (.head _))
  have h2 := hh _ _ (.tail _ (.tail _ (.head _)))
  have h3 := hh _ _ (.tail _ (.tail _ (.tail _ (.head _))))
  have h4 := hh _ _ (.tail _ (.tail _ (.tail _ (.tail _ (.head _)))))
  have h5 := hh _ _ (.tail _ (.tail _ (.tail _ (.tail _ (.tail _ (.head _))))))
  have h6 := hh _ _ (.tail _ (.tail _ (.tail _ (.tail _ (.tail _ (.tail _ (.head _)))))))
  have h7 := hh _ _ (.tail _ (.tail _ (.tail _ (.tail _ (.tail _ (.tail _ (.tail _ (.head _))))))))
  have h8 := hh _ _ (.tail _ (.tail _ (.tail _ (.tail _ (.tail _ (.tail _ (.tail _ (.tail _ (.head _)))))))))
  have h9 := hh _ _ (.tail _ (.tail _ (.tail _ (.tail _ (.tail _ (.tail _ (.tail _ (.tail _ (.tail _ (.head _))))))))))
  have h10 := hh _ _ (.tail _ (.tail _ (.tail _ (.tail _ (.tail _ (.tail _ (.tail _ (.tail _ (.tail _ (.tail _ (.head _)))))))))))
  clear hh
  simp only [N.den, aRem, true_iff, Bool.false_eq_true, false_iff, bI_ne, ieq_iff, ilt_iff] at h0 h1 h2 h3 h4 h5 h6 h7 h8 h9 h10
  generalize hA0 : max 0 (min 18446744073709551615 (i 1)) = a at *
  generalize hB0 : max 0 (min 18446744073709551615 (i 2)) = b at *
  generalize max 0 (min 255 (i 0)) = c at *
  have ha : 0 ≤ a ∧ a ≤ 18446744073709551615 := by omega
  have hb : 0 ≤ b ∧ b ≤ 18446744073709551615 := by omega
  clear hA0 hB0
  have ta : a.tmod 4294967296 = a % 4294967296 := Int.tmod_eq_emod_of_nonneg ha.1
  have tb : b.tmod 4294967296 = b % 4294967296 := Int.tmod_eq_emod_of_nonneg hb.1
  have oa := or_hi (a % 4294967296) (by omega) (by omega)
  have ob := or_hi (b % 4294967296) (by omega) (by omega)
  have xa := xor_top (a % 4294967296) (by omega) (by omega)
  have xb := xor_top (b % 4294967296) (by omega) (by omega)
  have xa2 := xor_top (a % 4294967296 + 18446744069414584320) (by omega) (by omega)
  have xb2 := xor_top (b % 4294967296 + 18446744069414584320) (by omega) (by omega)
  have xa3 := xor_top a ha.1 ha.2
  have xb3 := xor_top b hb.1 hb.2
  have wa := w_i32 a
  have wb := w_i32 b
  have va := w_i64 a
  have vb := w_i64 b
  simp only [ta, tb, xa, xb, w_u64] at h0 h1 h2 h3 h4 h5 h6 h7 h8 h9 h10
  try simp (disch := omega) only [Int.tmod_eq_emod_of_nonneg] at h0 h1 h2 h3 h4 h5 h6 h7 h8 h9 h10
  omega
theorem exc9_9 (i : Nat → Int) (hh : Holds i [((.eq (.conv .u64 (.conv .i32 (.var 1 0 18446744073709551615))) (.ar .or .u64 (.ar .rem .u64 (.var 1 0 18446744073709551615) (.lit 4294967296)) (.lit 18446744069414584320))), false), ((.lt (.ar .xor .u64 (.ar .or .u64 (.ar .rem .u64 (.var 2 0 18446744073709551615) (.lit 4294967296)) (.lit 18446744069414584320)) (.lit 9223372036854775808)) (.ar .xor .u64 (.ar .or .u64 (.ar .rem .u64 (.var 1 0 18446744073709551615) (.lit 4294967296)) (.lit 18446744069414584320)) (.lit 9223372036854775808))), true), ((.lt (.ar .rem .u64 (.var 2 0 18446744073709551615) (.lit 4294967296)) (.lit 2147483648)), false), ((.lt (.ar .rem .u64 (.var 1 0 18446744073709551615) (.lit 4294967296)) (.lit 2147483648)), false), ((.lt (.conv .i32 (.var 1 0 18446744073709551615)) (.conv .i32 (.var 2 0 18446744073709551615))), false), ((.lt (.var 0 0 255) (.lit 76)), true), ((.lt (.var 0 0 255) (.lit 75)), false), ((.lt (.var 0 0 255) (.lit 72)), false), ((.lt (.var 0 0 255) (.lit 78)), true), ((.lt (.var 0 0 255) (.lit 89)), true), ((.lt (.var 0 0 255) (.lit 67)), false)]) : False := by
  have h0 := hh _ _ (.head _)
  have h1 := hh _ _ (.tail _ (.head _))
  have h2 := hh _ _ (.tail _ (.tail _ (.head _)))
  have h3 := hh _ _ (.tail _ (.tail _ (.tail _ (.head _))))
  have h4 := hh _ _ (.tail _ (.tail _ (.tail _ (.tail _ (.head _)))))
  have h5 := hh _ _ (.tail _ (.tail _ (.tail _ (.tail _ (.tail _ (.head _))))))
  have h6 := hh _ _ (.tail _ (.tail _ (.tail _ (.tail _ (.tail _ (.tail _ (.head _)))))))
  have h7 := hh _ _ (.tail _ (.tail _ (.tail _ (.tail _ (.tail _ (.tail _ (.tail _ (.head _))))))))
  have h8 := hh _ _ (.tail _ (.tail _ (.tail _ (.tail _ (.tail _ (.tail _ (.tail _ (.tail _ (.head _)))))))))
  have h9 := hh _ _ (.tail _ (.tail _ (.tail _ (.tail _ (.tail _ (.tail _ (.tail _ (.tail _ (.tail _ (.head _))))))))))
  have h10 := hh _ _ (.tail _ (.tail _ (.tail _ (.tail _ (.tail _ (.tail _ (.tail _ (.tail _ (.tail _ (.tail _ (.head _)))))))))))
  clear hh
  simp only [N.den, aRem, true_iff, Bool.false_eq_true, false_iff, bI_ne, ieq_iff, ilt_iff] at h0 h1 h2 h3 h4 h5 h6 h7 h8 h9 h10
  generalize hA0 : max 0 (min 18446744073709551615 (i 1)) = a at *
  generalize hB0 : max 0 (min 18446744073709551615 (i 2)) = b at *
  generalize max 0 (min 255 (i 0)) = c at *
  have ha : 0 ≤ a ∧ a ≤ 18446744073709551615 := by omega
  have hb : 0 ≤ b ∧ b ≤ 18446744073709551615 := by omega
  clear hA0 hB0
  have ta : a.tmod 4294967296 = a % 4294967296 := Int.tmod_eq_emod_of_nonneg ha.1
  have tb : b.tmod 4294967296 = b % 4294967296 := Int.tmod_eq_emod_of_nonneg hb.1
  have oa := or_hi (a % 4294967296) (by omega) (by omega)
  have ob := or_hi (b % 4294967296) (by omega) (by omega)
  have xa := xor_top (a % 4294967296) (by omega) (by omega)
  have xb := xor_top (b % 4294967296) (by omega) (by omega)
  have xa2 := xor_top (a % 4294967296 + 18446744069414584320) (by omega) (by omega)
  have xb2 := xor_top (b % 4294967296 + 18446744069414584320) (by omega) (by omega)
  have xa3 := xor_top a ha.1 ha.2
  have xb3 := xor_top b hb.1 hb.2
  have wa := w_i32 a
  have wb := w_i32 b
  have va := w_i64 a
  have vb := w_i64 b
  simp only [ta, tb, oa, ob, xa2, xb2, w_u64] at h0 h1 h2 h3 h4 h5 h6 h7 h8 h9 h10
  try simp (disch := omega) only [Int.tmod_eq_emod_of_nonneg] at h0 h1 h2 h3 h4 h5 h6 h7 h8 h9 h10
  omega
theorem exc9_10 (i : Nat → Int) (hh : Holds i [((.eq (.conv .u64 (.conv .i32 (.var 1 0 18446744073709551615))) (.ar .or .u64 (.ar .rem .u64 (.var 1 0 18446744073709551615) (.lit 4294967296)) (.lit 18446744069414584320))), false), ((.eq (.conv .u32 (.var 1 0 18446744073709551615)) (.ar .rem .u64 (.ar .or .u64 (.ar .rem .u64 (.var 2 0 18446744073709551615) (.lit 4294967296)) (.lit 18446744069414584320)) (.lit 4294967296))), true), ((.lt (.ar .xor .u64 (.ar .or .u64 (.ar .rem .u64 (.var 2 0 18446744073709551615) (.lit 4294967296)) (.lit 18446744069414584320)) (.lit 9223372036854775808)) (.ar .xor .u64 (.ar .or .u64 (.ar .rem .u64 (.var 1 0 18446744073709551615) (.lit 4294967296)) (.lit 18446744069414584320)) (.lit 9223372036854775808))), false), ((.lt (.ar .rem .u64 (.var 2 0 18446744073709551615) (.lit 4294967296)) (.lit 2147483648)), false), ((.lt (.ar .rem .u64 (.var 1 0 18446744073709551615) (.lit 4294967296)) (.lit 2147483648)), false), ((.lt (.conv .i32 (.var 1 0 18446744073709551615)) (.conv .i32 (.var 2 0 18446744073709551615))), false), ((.lt (.var 0 0 255) (.lit 76)), true), ((.lt (.var 0 0 255) (.lit 75)), false), ((.lt (.var 0 0 255) (.lit 72)), false), ((.lt (.var 0 0 255) (.lit 78)), true), ((.lt (.var 0 0 255) (.lit 89)), true), ((.lt (.var 0 0 255) (.lit 67)), false)]) : False := by
  have h0 := hh _ _ (.head _)
  have h1 := hh _ _ (.tail _ (.head _))
  have h2 := hh _ _ (.tail _ (.tail _ (.head _)))
  have h3 := hh _ _ (.tail _ (.tail _ (.tail _ (.head _))))
  have h4 := hh _ _ (.tail _ (.tail _ (.tail _ (.tail _ (.head _)))))
  have h5 := hh _ _ (.tail _ (.tail _ (.tail _ (.tail _ (.tail _ (.head _))))))
  have h6 := hh _ _ (.tail _ (.tail _ (.tail _ (.tail _ (.tail _ (.tail _ (.head _)))))))
  have h7 := hh _ _ (.tail _ (.tail _ (.tail _ (.tail _ (.tail _ (.tail _ (.tail _ (.head _))))))))
  have h8 := hh _ _ (.tail _ (.tail _ (.tail _ (.tail _ (.tail _ (.tail _ (.tail _ (.tail _ (.head _)))))))))
  have h9 := hh _ _ (.tail _ (.tail _ (.tail _ (.tail _ (.tail _ (.tail _ (.tail _ (.tail _ (.tail _ (.head _))))))))))
  have h10 := hh _ _ (.tail _ (.tail _ (.tail _ (.tail _ (.tail _ (.tail _ (.tail _ (.tail _ (.tail _ (.tail _ (.head _)))))))))))
  have h11 := hh _ _ (.tail _ (.tail _ (.tail _ (.tail _ (.tail _ (.tail _ (.tail _ (.tail _ (.tail _ (.tail _ (.tail _ (.head _))))))))))))
  clear hh
  simp only [N.den, aRem, true_iff, Bool.false_eq_true, false_iff, bI_ne, ieq_iff, ilt_iff] at h0 h1 h2 h3 h4 h5 h6 h7 h8 h9 h10 h11
  generalize hA0 : max 0 (min 18446744073709551615 (i 1)) = a at *
  generalize hB0 : max 0 (min 18446744073709551615 (i 2)) = b at *
  generalize max 0 (min 255 (i 0)) = c at *
  have ha : 0 ≤ a ∧ a ≤ 18446744073709551615 := by omega
  have hb : 0 ≤ b ∧ b ≤ 18446744073709551615 := by omega
  clear hA0 hB0
  have ta : a.tmod 4294967296 = a % 4294967296 := Int.tmod_eq_emod_of_nonneg ha.1
  have tb : b.tmod 4294967296 = b % 4294967296 := Int.tmod_eq_emod_of_nonneg hb.1
  have oa := or_hi (a % 4294967296) (by omega) (by omega)
  have ob := or_hi (b % 4294967296) (by omega) (by omega)
  have xa := xor_top (a % 4294967296) (by omega) (by omega)
  have xb := xor_top (b % 4294967296) (by omega) (by omega)
  have xa2 := xor_top (a % 4294967296 + 18446744069414584320) (by omega) (by omega)
  have xb2 := xor_top (b % 4294967296 + 18446744069414584320) (by omega) (by omega)
  have xa3 := xor_top a ha.1 ha.2
  have xb3 := xor_top b hb.1 hb.2
  have wa := w_i32 a
  have wb := w_i32 b
  have va := w_i64 a
  have vb := w_i64 b
  simp only [ta, tb, oa, ob, xa2, xb2, w_u64, w_u32] at h0 h1 h2 h3 h4 h5 h6 h7 h8 h9 h10 h11
  try simp (disch := omega) only [Int.tmod_eq_emod_of_nonneg] at h0 h1 h2 h3 h4 h5 h6 h7 h8 h9 h10 h11
  omega
theorem exc9_11 (i : Nat → Int) (hh : Holds i [((.eq (.conv .u32 (.var 1 0 18446744073709551615)) (.ar .rem .u64 (.ar .or .u64 (.ar .rem .u64 (.var 2 0 18446744073709551615) (.lit 4294967296)) (.lit 18446744069414584320)) (.lit 4294967296))), false), ((.lt (.ar .xor .u64 (.ar .or .u64 (.ar .rem .u64 (.var 2 0 18446744073709551615) (.lit 4294967296)) (.lit 18446744069414584320)) (.lit 9223372036854775808)) (.ar .xor .u64 (.ar .or .u64 (.ar .rem .u64 (.var 1 0 18446744073709551615) (.lit 4294967296)) (.lit 18446744069414584320)) (.lit 9223372036854775808))), false), ((.lt (.ar .rem .u64 (.var 2 0 18446744073709551615) (.lit 4294967296)) (.lit 2147483648)), false), ((.lt (.ar .rem .u64 (.var 1 0 18446744073709551615) (.lit 4294967296)) (.lit 2147483648)), false), ((.lt (.conv .i32 (.var 1 0 18446744073709551615)) (.conv .i32 (.var 2 0 18446744073709551615))), false), ((.lt (.var 0 0 255) (.lit 76)), true), ((.lt (.var 0 0 255) (.lit 75)), false), ((.lt (.var 0 0 255) (.lit 72)), false), ((.lt (.var 0 0 255) (.lit 78)), true), ((.lt (.var 0 0 255) (.lit 89)), true), ((.lt (.var 0 0 255) (.lit 67)), false)]) : False := by
  have h0 := hh _ _ (.head _)
  have h1 := hh _ _ (.tail _ (.head _))
  have h2 := hh _ _ (.tail _ (.tail _ (.head _)))
  have h3 := hh _ _ (.tail _ (.tail _ (.tail _ (.head _))))
  have h4 := hh _ _ (.tail _ (.tail _ (.tail _ (.tail _ (.head _)))))
  have h5 := hh _ _ (.tail _ (.tail _ (.tail _ (.tail _ (.tail _ (.head _))))))
  have h6 := hh _ _ (.tail _ (.tail _ (.tail _ (.tail _ (.tail _ (.tail _ (.head _)))))))
  have h7 := hh _ _ (.tail _ (.tail _ (.tail _ (.tail _ (.tail _ (.tail _ (.tail _ (.head _))))))))
  have h8 := hh _ _ (.tail _ (.tail _ (.tail _ (.tail _ (.tail _ (.tail _ (.tail _ (.tail _ (.head _)))))))))
  have h9 := hh _ _ (.tail _ (.tail _ (.tail _ (.tail _ (.tail _ (.tail _ (.tail _ (.tail _ (.tail _ (.head _))))))))))
  have h10 := hh _ _ (.tail _ (.tail _ (.tail _ (.tail _ (.tail _ (.tail _ (.tail _ (.tail _ (.tail _ (.tail _ (.head _)))))))))))
  clear hh
  simp only [N.den, aRem, true_iff, Bool.false_eq_true, false_iff, bI_ne, ieq_iff, ilt_iff] at h0 h1 h2 h3 h4 h5 h6 h7 h8 h9 h10
  generalize hA0 : max 0 (min 18446744073709551615 (i 1)) = a at *
  generalize hB0 : max 0 (min 18446744073709551615 (i 2)) = b at *
  generalize max 0 (min 255 (i 0)) = c at *
  have ha : 0 ≤ a ∧ a ≤ 18446744073709551615 := by omega
  have hb : 0 ≤ b ∧ b ≤ 18446744073709551615 := by omega
  clear hA0 hB0
  have ta : a.tmod 4294967296 = a % 4294967296 := Int.tmod_eq_emod_of_nonneg ha.1
  have tb : b.tmod 4294967296 = b % 4294967296 := Int.tmod_eq_emod_of_nonneg hb.1
  have oa := or_hi (a % 4294967296) (by omega) (by omega)
  have ob := or_hi (b % 4294967296) (by omega) (by omega)
  have xa := xor_top (a % 4294967296) (by omega) (by omega)
  have xb := xor_top (b % 4294967296) (by omega) (by omega)
  have xa2 := xor_top (a % 4294967296 + 18446744069414584320) (by omega) (by omega)
  have xb2 := xor_top (b % 4294967296 + 18446744069414584320) (by omega) (by omega)
  have xa3 := xor_top a ha.1 ha.2
  have xb3 := xor_top b hb.1 hb.2
  have wa := w_i32 a
  have wb := w_i32 b
  have va := w_i64 a
  have vb := w_i64 b
  simp only [ta, tb, oa, ob, xa2, xb2, w_u32] at h0 h1 h2 h3 h4 h5 h6 h7 h8 h9 h10
  try simp (disch := omega) only [Int.tmod_eq_emod_of_nonneg] at h0 h1 h2 h3 h4 h5 h6 h7 h8 h9 h10
  omega
theorem exc9_12 (i : Nat → Int) (hh : Holds i [((.eq (.conv .u64 (.conv .i32 (.var 1 0 18446744073709551615))) (.ar .or .u64 (.ar .rem .u64 (.var 1 0 18446744073709551615) (.lit 4294967296)) (.lit 18446744069414584320))), false), ((.eq (.conv .u32 (.var 1 0 18446744073709551615)) (.ar .rem .u64 (.ar .rem .u64 (.var 2 0 18446744073709551615) (.lit 4294967296)) (.lit 4294967296))), true), ((.lt (.ar .rem .u64 (.var 2 0 18446744073709551615) (.lit 4294967296)) (.lit 2147483648)), true), ((.lt (.ar .rem .u64 (.var 1 0 18446744073709551615) (.lit 4294967296)) (.lit 2147483648)), false), ((.lt (.conv .i32 (.var 1 0 18446744073709551615)) (.conv .i32 (.var 2 0 18446744073709551615))), false), ((.lt (.var 0 0 255) (.lit 76)), true), ((.lt (.var 0 0 255) (.lit 75)), false), ((.lt (.var 0 0 255) (.lit 72)), false), ((.lt (.var 0 0 255) (.lit 78)), true), ((.lt (.var 0 0 255) (.lit 89)), true), ((.lt (.var 0 0 255) (.lit 67)), false)]) : False := by
  have h0 := hh _ _ (.head _)
  have h1 := hh _ _ (.tail _ (.head _))
  have h2 := hh _ _ (.tail _ (.tail _ (.head _)))
  have h3 := hh _ _ (.tail _ (.tail _ (.tail _ (.head _))))
  have h4 := hh _ _ (.tail _ (.tail _ (.tail _ (.tail _ (.head _)))))
  have h5 := hh _ _ (.tail _ (.tail _ (.tail _ (.tail _ (.tail _ (.head _))))))
  have h6 := hh _ _ (.tail _ (.tail _ (.tail _ (.tail _ (.tail _ (.tail _ (.head _)))))))
  have h7 := hh _ _ (.tail _ (.tail _ (.tail _ (.tail _ (.tail _ (.tail _ (.tail _ (.head _))))))))
  have h8 := hh _ _ (.tail _ (.tail _ (.tail _ (.tail _ (.tail _ (.tail _ (.tail _ (.tail _ (.head _)))))))))
  have h9 := hh _ _ (.tail _ (.tail _ (.tail _ (.tail _ (.tail _ (.tail _ (.tail _ (.tail _ (.tail _ (.head _))))))))))
  have h10 := hh _ _ (.tail _ (.tail _ (.tail _ (.tail _ (.tail _ (.tail _ (.tail _ (.tail _ (.tail _ (.tail _ (.head _)))))))))))
  clear hh
  simp only [N.den, aRem, true_iff, Bool.false_eq_true, false_iff, bI_ne, ieq_iff, ilt_iff] at h0 h1 h2 h3 h4 h5 h6 h7 h8 h9 h10
  generalize hA0 : max 0 (min 18446744073709551615 (i 1)) = a at *
  generalize hB0 : max 0 (min 18446744073709551615 (i 2)) = b at *
  generalize max 0 (min 255 (i 0)) = c at *
  have ha : 0 ≤ a ∧ a ≤ 18446744073709551615 := by omega
  have hb : 0 ≤ b ∧ b ≤ 18446744073709551615 := by omega
  clear hA0 hB0
  have ta : a.tmod 4294967296 = a % 4294967296 := Int.tmod_eq_emod_of_nonneg ha.1
  have tb : b.tmod 4294967296 = b % 4294967296 := Int.tmod_eq_emod_of_nonneg hb.1
  have oa := or_hi (a % 4294967296) (by omega) (by omega)
  have ob := or_hi (b % 4294967296) (by omega) (by omega)
  have xa := xor_top (a % 4294967296) (by omega) (by omega)
  have xb := xor_top (b % 4294967296) (by omega) (by omega)
  have xa2 := xor_top (a % 4294967296 + 18446744069414584320) (by omega) (by omega)
  have xb2 := xor_top (b % 4294967296 + 18446744069414584320) (by omega) (by omega)
  have xa3 := xor_top a ha.1 ha.2
  have xb3 := xor_top b hb.1 hb.2
  have wa := w_i32 a
  have wb := w_i32 b
  have va := w_i64 a
  have vb := w_i64 b
  simp only [ta, tb, oa, w_u64, w_u32] at h0 h1 h2 h3 h4 h5 h6 h7 h8 h9 h10
  try simp (disch := omega) only [Int.tmod_eq_emod_of_nonneg] at h0 h1 h2 h3 h4 h5 h6 h7 h8 h9 h10
  omega
theorem exc9_13 (i : Nat → Int) (hh : Holds i [((.eq (.conv .u32 (.var 1 0 18446744073709551615)) (.ar .rem .u64 (.ar .rem .u64 (.var 2 0 18446744073709551615) (.lit 4294967296)) (.lit 4294967296))), false), ((.lt (.ar .rem .u64 (.var 2 0 18446744073709551615) (.lit 4294967296)) (.lit 2147483648)), true), ((.lt (.ar .rem .u64 (.var 1 0 18446744073709551615) (.lit 4294967296)) (.lit 2147483648)), false), ((.lt (.conv .i32 (.var 1 0 18446744073709551615)) (.conv .i32 (.var 2 0 18446744073709551615))), false), ((.lt (.var 0 0 255) (.lit 76)), true), ((.lt (.var 0 0 255) (.lit 75)), false), ((.lt (.var 0 0 255) (.lit 72)), false), ((.lt (.var 0 0 255) (.lit 78)), true), ((.lt (.var 0 0 255) (.lit 89)), true), ((.lt (.var 0 0 255) (.lit 67)), false)]) : False := by
  have h0 := hh _ _ (.head _)
  have h1 := hh _ _ (.tail _ (.head _))
  have h2 := hh _ _ (.tail _ (.tail _ (.head _)))
  have h3 := hh _ _ (.tail _ (.tail _ (.tail _ (.head _))))
  have h4 := hh _ _ (.tail _ (.tail _ (.tail _ (.tail _ (.head _)))))
  have h5 := hh _ _ (.tail _ (.tail _ (.tail _ (.tail _ (.tail _ (.head _))))))
  have h6 := hh _ _ (.tail _ (.tail _ (.tail _ (.tail _ (.tail _ (.tail _ (.head _)))))))
  have h7 := hh _ _ (.tail _ (.tail _ (.tail _ (.tail _ (.tail _ (.tail _ (.tail _ (.head _))))))))
  have h8 := hh _ _ (.tail _ (.tail _ (.tail _ (.tail _ (.tail _ (.tail _ (.tail _ (.tail _ (.head _)))))))))
  have h9 := hh _ _ (.tail _ (.tail _ (.tail _ (.tail _ (.tail _ (.tail _ (.tail _ (.tail _ (.tail _ (.head _))))))))))
  clear hh
  simp only [N.den, aRem, true_iff, Bool.false_eq_true, false_iff, bI_ne, ieq_iff, ilt_iff] at h0 h1 h2 h3 h4 h5 h6 h7 h8 h9
  generalize hA0 : max 0 (min 18446744073709551615 (i 1)) = a at *
  generalize hB0 : max 0 (min 18446744073709551615 (i 2)) = b at *
  generalize max 0 (min 255 (i 0)) = c at *
  have ha : 0 ≤ a ∧ a ≤ 18446744073709551615 := by omega
  have hb : 0 ≤ b ∧ b ≤ 18446744073709551615 := by omega
  clear hA0 hB0
  have ta : a.tmod 4294967296 = a % 4294967296 := Int.tmod_eq_emod_of_nonneg ha.1
  have tb : b.tmod 4294967296 = b % 4294967296 := Int.tmod_eq_emod_of_nonneg hb.1
  have oa := or_hi (a % 4294967296) (by omega) (by omega)
  have ob := or_hi (b % 4294967296) (by omega) (by omega)
  have xa := xor_top (a % 4294967296) (by omega) (by omega)
  have xb := xor_top (b % 4294967296) (by omega) (by omega)
  have xa2 := xor_top (a % 4294967296 + 18446744069414584320) (by omega) (by omega)
  have xb2 := xor_top (b % 4294967296 + 18446744069414584320) (by omega) (by omega)
  have xa3 := xor_top a ha.1 ha.2
  have xb3 := xor_top b hb.1 hb.2
  have wa := w_i32 a
  have wb := w_i32 b
  have va := w_i64 a
  have vb := w_i64 b
  simp only [ta, tb, w_u32] at h0 h1 h2 h3 h4 h5 h6 h7 h8 h9
  try simp (disch := omega) only [Int.tmod_eq_emod_of_nonneg] at h0 h1 h2 h3 h4 h5 h6 h7 h8 h9
  omega
theorem exc9_14 (i : Nat → Int) (hh : Holds i [((.eq (.conv .u64 (.conv .i32 (.var 1 0 18446744073709551615))) (.ar .rem .u64 (.var 1 0 18446744073709551615) (.lit 4294967296))), false), ((.lt (.ar .rem .u64 (.var 2 0 18446744073709551615) (.lit 4294967296)) (.lit 2147483648)), false), ((.lt (.ar .rem .u64 (.var 1 0 18446744073709551615) (.lit 4294967296)) (.lit 2147483648)), true), ((.lt (.conv .i32 (.var 1 0 18446744073709551615)) (.conv .i32 (.var 2 0 18446744073709551615))), false), ((.lt (.var 0 0 255) (.lit 76)), true), ((.lt (.var 0 0 255) (.lit 75)), false), ((.lt (.var 0 0 255) (.lit 72)), false), ((.lt (.var 0 0 255) (.lit 78)), true), ((.lt (.var 0 0 255) (.lit 89)), true), ((.lt (.var 0 0 255) (.lit 67)), false)]) : False := by
  have h0 := hh _ _ (.head _)
  have h1 := hh _ _ (.tail _ (.head _))
  have h2 := hh _ _ (.tail _ (.tail _ (.head _)))
  have h3 := hh _ _ (.tail _ (.tail _ (.tail _ (.head _))))
  have h4 := hh _ _ (.tail _ (.tail _ (.tail _ (.tail _ (.head _)))))
  have h5 := hh _ _ (.tail _ (.tail _ (.tail _ (.tail _ (.tail _ (.head _))))))
  have h6 := hh _ _ (.tail _ (.tail _ (.tail _ (.tail _ (.tail _ (.tail _ (.head _)))))))
  have h7 := hh _ _ (.tail _ (.tail _ (.tail _ (.tail _ (.tail _ (.tail _ (.tail _ (.head _))))))))
  have h8 := hh _ _ (.tail _ (.tail _ (.tail _ (.tail _ (.tail _ (.tail _ (.tail _ (.tail _ (.head _)))))))))
  have h9 := hh _ _ (.tail _ (.tail _ (.tail _ (.tail _ (.tail _ (.tail _ (.tail _ (.tail _ (.tail _ (.head _))))))))))
  clear hh
  simp only [N.den, aRem, true_iff, Bool.false_eq_true, false_iff, bI_ne, ieq_iff, ilt_iff] at h0 h1 h2 h3 h4 h5 h6 h7 h8 h9
  generalize hA0 : max 0 (min 18446744073709551615 (i 1)) = a at *
  generalize hB0 : max 0 (min 18446744073709551615 (i 2)) = b at *
  generalize max 0 (min 255 (i 0)) = c at *
  have ha : 0 ≤ a ∧ a ≤ 18446744073709551615 := by omega
  have hb : 0 ≤ b ∧ b ≤ 18446744073709551615 := by omega
  clear hA0 hB0
  have ta : a.tmod 4294967296 = a % 4294967296 := Int.tmod_eq_emod_of_nonneg ha.1
  have tb : b.tmod 4294967296 = b % 4294967296 := Int.tmod_eq_emod_of_nonneg hb.1
  have oa := or_hi (a % 4294967296) (by omega) (by omega)
  have ob := or_hi (b % 4294967296) (by omega) (by omega)
  have xa := xor_top (a % 4294967296) (by omega) (by omega)
  have xb := xor_top (b % 4294967296) (by omega) (by omega)
  have xa2 := xor_top (a % 4294967296 + 18446744069414584320) (by omega) (by omega)
  have xb2 := xor_top (b % 4294967296 + 18446744069414584320) (by omega) (by omega)
  have xa3 := xor_top a ha.1 ha.2
  have xb3 := xor_top b hb.1 hb.2
  have wa := w_i32 a
  have wb := w_i32 b
  have va := w_i64 a
  have vb := w_i64 b
  simp only [ta, tb, w_u64] at h0 h1 h2 h3 h4 h5 h6 h7 h8 h9
  try simp (disch := omega) only [Int.tmod_eq_emod_of_nonneg] at h0 h1 h2 h3 h4 h5 h6 h7 h8 h9
  omega
theorem exc9_15 (i : Nat → Int) (hh : Holds i [((.eq (.conv .u64 (.conv .i32 (.var 1 0 18446744073709551615))) (.ar .rem .u64 (.var 1 0 18446744073709551615) (.lit 4294967296))), false), ((.lt (.ar .xor .u64 (.ar .rem .u64 (.var 2 0 18446744073709551615) (.lit 4294967296)) (.lit 9223372036854775808)) (.ar .xor .u64 (.ar .rem .u64 (.var 1 0 18446744073709551615) (.lit 4294967296)) (.lit 9223372036854775808))), true), ((.lt (.ar .rem .u64 (.var 2 0 18446744073709551615) (.lit 4294967296)) (.lit 2147483648)), true), ((.lt (.ar .rem .u64 (.var 1 0 18446744073709551615) (.lit 4294967296)) (.lit 2147483648)), true), ((.lt (.conv .i32 (.var 1 0 18446744073709551615)) (.conv .i32 (.var 2 0 18446744073709551615))), false), ((.lt (.var 0 0 255) (.lit 76)), true), ((.lt (.var 0 0 255) (.lit 75)), false), ((.lt (.var 0 0 255) (.lit 72)), false), ((.lt (.var 0 0 255) (.lit 78)), true), ((.lt (.var 0 0 255) (.lit 89)), true), ((.lt (.var 0 0 255) (.lit 67)), false)]) : False := by
  have h0 := hh _ _ (.head _)
  have h1 := hh _ _ (.tail _ (.head _))
  have h2 := hh _ _ (.tail _ (.tail _ (.head _)))
  have h3 := hh _ _ (.tail _ (.tail _ (.tail _ (.head _))))
  have h4 := hh _ _ (.tail _ (.tail _ (.tail _ (.tail _ (.head _)))))
  have h5 := hh _ _ (.tail _ (.tail _ (.tail _ (.tail _ (.tail _ (.head _))))))
  have h6 := hh _ _ (.tail _ (.tail _ (.tail _ (.tail _ (.tail _ (.tail _ (.head _)))))))
  have h7 := hh _ _ (.tail _ (.tail _ (.tail _ (.tail _ (.tail _ (.tail _ (.tail _ (.head _))))))))
  have h8 := hh _ _ (.tail _ (.tail _ (.tail _ (.tail _ (.tail _ (.tail _ (.tail _ (.tail _ (.head _)))))))))
  have h9 := hh _ _ (.tail _ (.tail _ (.tail _ (.tail _ (.tail _ (.tail _ (.tail _ (.tail _ (.tail _ (.head _))))))))))
  have h10 := hh _ _ (.tail _ (.tail _ (.tail _ (.tail _ (.tail _ (.tail _ (.tail _ (.tail _ (.tail _ (.tail _ (.head _)))))))))))
  clear hh
  simp only [N.den, aRem, true_iff, Bool.false_eq_true, false_iff, bI_ne, ieq_iff, ilt_iff] at h0 h1 h2 h3 h4 h5 h6 h7 h8 h9 h10
  generalize hA0 : max 0 (min 18446744073709551615 (i 1)) = a at *
  generalize hB0 : max 0 (min 18446744073709551615 (i 2)) = b at *
  generalize max 0 (min 255 (i 0)) = c at *
  have ha : 0 ≤ a ∧ a ≤ 18446744073709551615 := by omega
  have hb : 0 ≤ b ∧ b ≤ 18446744073709551615 := by omega
  clear hA0 hB0
  have ta : a.tmod 4294967296 = a % 4294967296 := Int.tmod_eq_emod_of_nonneg ha.1
  have tb : b.tmod 4294967296 = b % 4294967296 := Int.tmod_eq_emod_of_nonneg hb.1
  have oa := or_hi (a % 4294967296) (by omega) (by omega)
  have ob := or_hi (b % 4294967296) (by omega) (by omega)
  have xa := xor_top (a % 4294967296) (by omega) (by omega)
  have xb := xor_top (b % 4294967296) (by omega) (by omega)
  have xa2 := xor_top (a % 4294967296 + 18446744069414584320) (by omega) (by omega)
  have xb2 := xor_top (b % 4294967296 + 18446744069414584320) (by omega) (by omega)
  have xa3 := xor_top a ha.1 ha.2
  have xb3 := xor_top b hb.1 hb.2
  have wa := w_i32 a
  have wb := w_i32 b
  have va := w_i64 a
  have vb := w_i64 b
  simp only [ta, tb, xa, xb, w_u64] at h0 h1 h2 h3 h4 h5 h6 h7 h8 h9 h10
  try simp (disch := omega) only [Int.tmod_eq_emod_of_nonneg] at h0 h1 h2 h3 h4 h5 h6 h7 h8 h9 h10
  omega
theorem exc9_16 (i : Nat → Int) (hh : Holds i [((.eq (.conv .u64 (.conv .i32 (.var 1 0 18446744073709551615))) (.ar .rem .u64 (.var 1 0 18446744073709551615) (.lit 4294967296))), false), ((.eq (.conv .u32 (.var 1 0 18446744073709551615)) (.ar .rem .u64 (.ar .rem .u64 (.var 2 0 18446744073709551615) (.lit 4294967296)) (.lit 4294967296))), true), ((.lt (.ar .xor .u64 (.ar .rem .u64 (.var 2 0 18446744073709551615) (.lit 4294967296)) (.lit 9223372036854775808)) (.ar .xor .u64 (.ar .rem .u64 (.var 1 0 18446744073709551615) (.lit 4294967296)) (.lit 9223372036854775808))), false), ((.lt (.ar .rem .u64 (.var 2 0 18446744073709551615) (.lit 4294967296)) (.lit 2147483648)), true), ((.lt (.ar .rem .u64 (.var 1 0 18446744073709551615) (.lit 4294967296)) (.lit 2147483648)), true), ((.lt (.conv .i32 (.var 1 0 18446744073709551615)) (.conv .i32 (.var 2 0 18446744073709551615))), false), ((.lt (.var 0 0 255) (.lit 76)), true), ((.lt (.var 0 0 255) (.lit 75)), false), ((.lt (.var 0 0 255) (.lit 72)), false), ((.lt (.var 0 0 255) (.lit 78)), true), ((.lt (.var 0 0 255) (.lit 89)), true), ((.lt (.var 0 0 255) (.lit 67)), false)]) : False := by
  have h0 := hh _ _ (.head _)
  have h1 := hh _ _ (.tail _ (.head _))
  have h2 := hh _ _ (.tail _ (.tail _ (.head _)))
  have h3 := hh _ _ (.tail _ (.tail _ (.tail _ (.head _))))
  have h4 := hh _ _ (.tail _ (.tail _ (.tail _ (.tail _ (.head _)))))
  have h5 := hh _ _ (.tail _ (.tail _ (.tail _ (.tail _ (.tail _ (.head _))))))
  have h6 := hh _ _ (.tail _ (.tail _ (.tail _ (.tail _ (.tail _ (.tail _ (.head _)))))))
  have h7 := hh _ _ (.tail _ (.tail _ (.tail _ (.tail _ (.tail _ (.tail _ (.tail _ (.head _))))))))
  have h8 := hh _ _ (.tail _ (.tail _ (.tail _ (.tail _ (.tail _ (.tail _ (.tail _ (.tail _ (.head _)))))))))
  have h9 := hh _ _ (.tail _ (.tail _ (.tail _ (.tail _ (.tail _ (.tail _ (.tail _ (.tail _ (.tail _ (.head _))))))))))
  have h10 := hh _ _ (.tail _ (.tail _ (.tail _ (.tail _ (.tail _ (.tail _ (.tail _ (.tail _ (.tail _ (.tail _ (.head _)))))))))))
  have h11 := hh _ _ (.tail _ (.tail _ (.tail _ (.tail _ (.tail _ (.tail _ (.tail _ (.tail _ (.tail _ (.tail _ (.tail _ (.head _))))))))))))
  clear hh
  simp only [N.den, aRem, true_iff, Bool.false_eq_true, false_iff, bI_ne, ieq_iff, ilt_iff] at h0 h1 h2 h3 h4 h5 h6 h7 h8 h9 h10 h11
  generalize hA0 : max 0 (min 18446744073709551615 (i 1)) = a at *
  generalize hB0 : max 0 (min 18446744073709551615 (i 2)) = b at *
  generalize max 0 (min 255 (i 0)) = c at *
  have ha : 0 ≤ a ∧ a ≤ 18446744073709551615 := by omega
  have hb : 0 ≤ b ∧ b ≤ 18446744073709551615 := by omega
  clear hA0 hB0
  have ta : a.tmod 4294967296 = a % 4294967296 := Int.tmod_eq_emod_of_nonneg ha.1
  have tb : b.tmod 4294967296 = b % 4294967296 := Int.tmod_eq_emod_of_nonneg hb.1
  have oa := or_hi (a % 4294967296) (by omega) (by omega)
  have ob := or_hi (b % 4294967296) (by omega) (by omega)
  have xa := xor_top (a % 4294967296) (by omega) (by omega)
  have xb := xor_top (b % 4294967296) (by omega) (by omega)
  have xa2 := xor_top (a % 4294967296 + 18446744069414584320) (by omega) (by omega)
  have xb2 := xor_top (b % 4294967296 + 18446744069414584320) (by omega) (by omega)
  have xa3 := xor_top a ha.1 ha.2
  have xb3 := xor_top b hb.1 hb.2
  have wa := w_i32 a
  have wb := w_i32 b
  have va := w_i64 a
  have vb := w_i64 b
  simp only [ta, tb, xa, xb, w_u64, w_u32] at h0 h1 h2 h3 h4 h5 h6 h7 h8 h9 h10 h11
  try simp (disch := omega) only [Int.tmod_eq_emod_of_nonneg] at h0 h1 h2 h3 h4 h5 h6 h7 h8 h9 h10 h11
  omega
theorem exc9_17 (i : Nat → Int) (hh : Holds i [((.eq (.conv .u32 (.var 1 0 18446744073709551615)) (.ar .rem .u64 (.ar .rem .u64 (.var 2 0 18446744073709551615) (.lit 4294967296)) (.lit 4294967296))), false), ((.lt (.ar .xor .u64 (.ar .rem .u64 (.var 2 0 18446744073709551615) (.lit 4294967296)) (.lit 9223372036854775808)) (.ar .xor .u64 (.ar .rem .u64 (.var 1 0 18446744073709551615) (.lit 4294967296)) (.lit 9223372036854775808))), false), ((.lt (.ar .rem .u64 (.var 2 0 18446744073709551615) (.lit 4294967296)) (.lit 2147483648)), true), ((.lt (.ar .rem .u64 (.var 1 0 18446744073709551615) (.lit 4294967296)) (.lit 2147483648)), true), ((.lt (.conv .i32 (.var 1 0 18446744073709551615)) (.conv .i32 (.var 2 0 18446744073709551615))), false), ((.lt (.var 0 0 255) (.lit 76)), true), ((.lt (.var 0 0 255) (.lit 75)), false), ((.lt (.var 0 0 255) (.lit 72)), false), ((.lt (.var 0 0 255) (.lit 78)), true), ((.lt (.var 0 0 255) (.lit 89)), true), ((.lt (.var 0 0 255) (.lit 67)), false)]) : False := by
  have h0 := hh _ _ (.head _)
  have h1 := hh _ _ (.tail _ (.head _))
  have h2 := hh _ _ (.tail _ (.tail _ (.head _)))
  have h3 := hh _ _ (.tail _ (.tail _ (.tail _ (.head _))))
  have h4 := hh _ _ (.tail _ (.tail _ (.tail _ (.tail _ (.head _)))))
  have h5 := hh _ _ (.tail _ (.tail _ (.tail _ (.tail _ (.tail _ (.head _))))))
  have h6 := hh _ _ (.tail _ (.tail _ (.tail _ (.tail _ (.tail _ (.tail _ (.head _)))))))
  have h7 := hh _ _ (.tail _ (.tail _ (.tail _ (.tail _ (.tail _ (.tail _ (.tail _ (.head _))))))))
  have h8 := hh _ _ (.tail _ (.tail _ (.tail _ (.tail _ (.tail _ (.tail _ (.tail _ (.tail _ (.head _)))))))))
  have h9 := hh _ _ (.tail _ (.tail _ (.tail _ (.tail _ (.tail _ (.tail _ (.tail _ (.tail _ (.tail _ (.head _))))))))))
  have h10 := hh _ _ (.tail _ (.tail _ (.tail _ (.tail _ (.tail _ (.tail _ (.tail _ (.tail _ (.tail _ (.tail _ (.head _)))))))))))
  clear hh
  simp only [N.den, aRem, true_iff, Bool.false_eq_true, false_iff, bI_ne, ieq_iff, ilt_iff] at h0 h1 h2 h3 h4 h5 h6 h7 h8 h9 h10
  generalize hA0 : max 0 (min 18446744073709551615 (i 1)) = a at *
  generalize hB0 : max 0 (min 18446744073709551615 (i 2)) = b at *
  generalize max 0 (min 255 (i 0)) = c at *
  have ha : 0 ≤ a ∧ a ≤ 18446744073709551615 := by omega
  have hb : 0 ≤ b ∧ b ≤ 18446744073709551615 := by omega
  clear hA0 hB0
  have ta : a.tmod 4294967296 = a % 4294967296 := Int.tmod_eq_emod_of_nonneg ha.1
  have tb : b.tmod 4294967296 = b % 4294967296 := Int.tmod_eq_emod_of_nonneg hb.1
  have oa := or_hi (a % 4294967296) (by omega) (by omega)
  have ob := or_hi (b % 4294967296) (by omega) (by omega)
  have xa := xor_top (a % 4294967296) (by omega) (by omega)
  have xb := xor_top (b % 4294967296) (by omega) (by omega)
  have xa2 := xor_top (a % 4294967296 + 18446744069414584320) (by omega) (by omega)
  have xb2 := xor_top (b % 4294967296 + 18446744069414584320) (by omega) (by omega)
  have xa3 := xor_top a ha.1 ha.2
  have xb3 := xor_top b hb.1 hb.2
  have wa := w_i32 a
  have wb := w_i32 b
  have va := w_i64 a
  have vb := w_i64 b
  simp only [ta, tb, xa, xb, w_u32] at h0 h1 h2 h3 h4 h5 h6 h7 h8 h9 h10
  try simp (disch := omega) only [Int.tmod_eq_emod_of_nonneg] at h0 h1 h2 h3 h4 h5 h6 h7 h8 h9 h10
  omega
theorem exc9_no : ∀ q ∈ exc9, ∀ i, ¬ Holds i q :=
  List.forall_mem_cons.2 ⟨exc9_0, List.forall_mem_cons.2 ⟨exc9_1, List.forall_mem_cons.2 ⟨exc9_2, List.forall_mem_cons.2 ⟨exc9_3, List.forall_mem_cons.2 ⟨exc9_4, List.forall_mem_cons.2 ⟨exc9_5, List.forall_mem_cons.2 ⟨exc9_6, List.forall_mem_cons.2 ⟨exc9_7, List.forall_mem_cons.2 ⟨exc9_8, List.forall_mem_cons.2 ⟨exc9_9, List.forall_mem_cons.2 ⟨exc9_10, List.forall_mem_cons.2 ⟨exc9_11, List.forall_mem_cons.2 ⟨exc9_12, List.forall_mem_cons.2 ⟨exc9_13, List.forall_mem_cons.2 ⟨exc9_14, List.forall_mem_cons.2 ⟨exc9_15, List.forall_mem_cons.2 ⟨exc9_16, List.forall_mem_cons.2 ⟨exc9_17, (fun p h => by cases h)⟩⟩⟩⟩⟩⟩⟩⟩⟩⟩⟩⟩⟩⟩⟩⟩⟩⟩
theorem exc10_0 (i : Nat → Int) (hh : Holds i [((.eq (.conv .u64 (.conv .i32 (.var 1 0 18446744073709551615))) (.ar .or .u64 (.ar .rem .u64 (.var 1 0 18446744073709551615) (.lit 4294967296)) (.lit 18446744069414584320))), false), ((.eq (.conv .u32 (.var 2 0 18446744073709551615)) (.ar .rem .u64 (.ar .or .u64 (.ar .rem .u64 (.var 1 0 18446744073709551615) (.lit 4294967296)) (.lit 18446744069414584320)) (.lit 4294967296))), true), ((.lt (.ar .or .u64 (.ar .rem .u64 (.var 1 0 18446744073709551615) (.lit 4294967296)) (.lit 18446744069414584320)) (.ar .or .u64 (.ar .rem .u64 (.var 2 0 18446744073709551615) (.lit 4294967296)) (.lit 18446744069414584320))), true), ((.lt (.ar .rem .u64 (.var 2 0 18446744073709551615) (.lit 4294967296)) (.lit 2147483648)), false), ((.lt (.ar .rem .u64 (.var 1 0 18446744073709551615) (.lit 4294967296)) (.lit 2147483648)), false), ((.lt (.conv .u32 (.var 2 0 18446744073709551615)) (.conv .u32 (.var 1 0 18446744073709551615))), true), ((.lt (.var 0 0 255) (.lit 77)), true), ((.lt (.var 0 0 255) (.lit 76)), false), ((.lt (.var 0 0 255) (.lit 75)), false), ((.lt (.var 0 0 255) (.lit 72)), false), ((.lt (.var 0 0 255) (.lit 78)), true), ((.lt (.var 0 0 255) (.lit 89)), true), ((.lt (.var 0 0 255) (.lit 67)), false)]) : False := by
  have h0 := hh _ _ (.head _)
  have h1 := hh _ _ (.tail _ (.head _))
  have h2 := hh _ _ (.tail _ (.tail _ (.head _)))
  have h3 := hh _ _ (.tail _ (.tail _ (.tail _ (.head _))))
  have h4 := hh _ _ (.tail _ (.tail _ (.tail _ (.tail _ (.head _)))))
  have h5 := hh _ _ (.tail _ (.tail _ (.tail _ (.tail _ (.tail _ (.head _))))))
  have h6 := hh _ _ (.tail _ (.tail _ (.tail _ (.tail _ (.tail _ (.tail _ (.head _)))))))
  have h7 := hh _ _ (.tail _ (.tail _ (.tail _ (.tail _ (.tail _ (.tail _ (.tail _ (.head _))))))))
  have h8 := hh _ _ (.tail _ (.tail _ (.tail _ (.tail _ (.tail _ (.tail _ (.tail _ (.tail _ (.head _)))))))))
  have h9 := hh _ _ (.tail _ (.tail _ (.tail _ (.tail _ (.tail _ (.tail _ (.tail _ (.tail _ (.tail _ (.head _))))))))))
  have h10 := hh _ _ (.tail _ (.tail _ (.tail _ (.tail _ (.tail _ (.tail _ (.tail _ (.tail _ (.tail _ (.tail _ (.head _)))))))))))
  have h11 := hh _ _ (.tail _ (.tail _ (.tail _ (.tail _ (.tail _ (.tail _ (.tail _ (.tail _ (.tail _ (.tail _ (.tail _ (.head _))))))))))))
  have h12 := hh _ _ (.tail _ (.tail _ (.tail _ (.tail _ (.tail _ (.tail _ (.tail _ (.tail _ (.tail _ (.tail _ (.tail _ (.tail _ (.head _)))))))))))))
  clear hh
  simp only [N.den, aRem, true_iff, Bool.false_eq_true, false_iff, bI_ne, ieq_iff, ilt_iff] at h0 h1 h2 h3 h4 h5 h6 h7 h8 h9 h10 h11 h12
  generalize hA0 : max 0 (min 18446744073709551615 (i 1)) = a at *
  generalize hB0 : max 0 (min 18446744073709551615 (i 2)) = b at *
  generalize max 0 (min 255 (i 0)) = c at *
  have ha : 0 ≤ a ∧ a ≤ 18446744073709551615 := by omega
  have hb : 0 ≤ b ∧ b ≤ 18446744073709551615 := by omega
  clear hA0 hB0
  have ta : a.tmod 4294967296 = a % 4294967296 := Int.tmod_eq_emod_of_nonneg ha.1
  have tb : b.tmod 4294967296 = b % 4294967296 := Int.tmod_eq_emod_of_nonneg hb.1
  have oa := or_hi (a % 4294967296) (by omega) (by omega)
  have ob := or_hi (b % 4294967296) (by omega) (by omega)
  have xa := xor_top (a % 4294967296) (by omega) (by omega)
  have xb := xor_top (b % 4294967296) (by omega) (by omega)
  have xa2 := xor_top (a % 4294967296 + 18446744069414584320) (by omega) (by omega)
  have xb2 := xor_top (b % 4294967296 + 18446744069414584320) (by omega) (by omega)
  have xa3 := xor_top a ha.1 ha.2
  have xb3 := xor_top b hb.1 hb.2
  have wa := w_i32 a
  have wb := w_i32 b
  have va := w_i64 a
  have vb := w_i64 b
  simp only [ta, tb, oa, ob, w_u64, w_u32] at h0 h1 h2 h3 h4 h5 h6 h7 h8 h9 h10 h11 h12
  try simp (disch := omega) only [Int.tmod_eq_emod_of_nonneg] at h0 h1 h2 h3 h4 h5 h6 h7 h8 h9 h10 h11 h12
  omega
theorem exc10_1 (i : Nat → Int) (hh : Holds i [((.eq (.conv .u32 (.var 2 0 18446744073709551615)) (.ar .rem .u64 (.ar .or .u64 (.ar .rem .u64 (.var 1 0 18446744073709551615) (.lit 4294967296)) (.lit 18446744069414584320)) (.lit 4294967296))), false), ((.lt (.ar .or .u64 (.ar .rem .u64 (.var 1 0 18446744073709551615) (.lit 4294967296)) (.lit 18446744069414584320)) (.ar .or .u64 (.ar .rem .u64 (.var 2 0 18446744073709551615) (.lit 4294967296)) (.lit 18446744069414584320))), true), ((.lt (.ar .rem .u64 (.var 2 0 18446744073709551615) (.lit 4294967296)) (.lit 2147483648)), false), ((.lt (.ar .rem .u64 (.var 1 0 18446744073709551615) (.lit 4294967296)) (.lit 2147483648)), false), ((.lt (.conv .u32 (.var 2 0 18446744073709551615)) (.conv .u32 (.var 1 0 18446744073709551615))), true), ((.lt (.var 0 0 255) (.lit 77)), true), ((.lt (.var 0 0 255) (.lit 76)), false), ((.lt (.var 0 0 255) (.lit 75)), false), ((.lt (.var 0 0 255) (.lit 72)), false), ((.lt (.var 0 0 255) (.lit 78)), true), ((.lt (.var 0 0 255) (.lit 89)), true), ((.lt (.var 0 0 255) (.lit 67)), false)]) : False := by
  have h0 := hh _ _ (.head _)
  have h1 := hh _ _ (.tail _ (.head _))
  have h2 := hh _ _ (.tail _ (.tail _ (.head _)))
  have h3 := hh _ _ (.tail _ (.tail _ (.tail _ (.head _))))
  have h4 := hh _ _ (.tail _ (.tail _ (.tail _ (.tail _ (.head _)))))
  have h5 := hh _ _ (.tail _ (.tail _ (.tail _ (.tail _ (.tail _ (.head _))))))
  have h6 := hh _ _ (.tail _ (.tail _ (.tail _ (.tail _ (.tail _ (.tail _ (.head _)))))))
  have h7 := hh _ _ (.tail _ (.tail _ (.tail _ (.tail _ (.tail _ (.tail _ (.tail _ (.head _))))))))
  have h8 := hh _ _ (.tail _ (.tail _ (.tail _ (.tail _ (.tail _ (.tail _ (.tail _ (.tail _ (.head _)))))))))
  have h9 := hh _ _ (.tail _ (.tail _ (.tail _ (.tail _ (.tail _ (.tail _ (.tail _ (.tail _ (.tail _ (.head _))))))))))
  have h10 := hh _ _ (.tail _ (.tail _ (.tail _ (.tail _ (.tail _ (.tail _ (.tail _ (.tail _ (.tail _ (.tail _ (.head _)))))))))))
  have h11 := hh _ _ (.tail _ (.tail _ (.tail _ (.tail _ (.tail _ (.tail _ (.tail _ (.tail _ (.tail _ (.tail _ (.tail _ (.head _))))))))))))
  clear hh
  simp only [N.den, aRem, true_iff, Bool.false_eq_true, false_iff, bI_ne, ieq_iff, ilt_iff] at h0 h1 h2 h3 h4 h5 h6 h7 h8 h9 h10 h11
  generalize hA0 : max 0 (min 18446744073709551615 (i 1)) = a at *
  generalize hB0 : max 0 (min 18446744073709551615 (i 2)) = b at *
  generalize max 0 (min 255 (i 0)) = c at *
  have ha : 0 ≤ a ∧ a ≤ 18446744073709551615 := by omega
  have hb : 0 ≤ b ∧ b ≤ 18446744073709551615 := by omega
  clear hA0 hB0
  have ta : a.tmod 4294967296 = a % 4294967296 := Int.tmod_eq_emod_of_nonneg ha.1
  have tb : b.tmod 4294967296 = b % 4294967296 := Int.tmod_eq_emod_of_nonneg hb.1
  have oa := or_hi (a % 4294967296) (by omega) (by omega)
  have ob := or_hi (b % 4294967296) (by omega) (by omega)
  have xa := xor_top (a % 4294967296) (by omega) (by omega)
  have xb := xor_top (b % 4294967296) (by omega) (by omega)
  have xa2 := xor_top (a % 4294967296 + 18446744069414584320) (by omega) (by omega)
  have xb2 := xor_top (b % 4294967296 + 18446744069414584320) (by omega) (by omega)
  have xa3 := xor_top a ha.1 ha.2
  have xb3 := xor_top b hb.1 hb.2
  have wa := w_i32 a
  have wb := w_i32 b
  have va := w_i64 a
  have vb := w_i64 b
  simp only [ta, tb, oa, ob, w_u32] at h0 h1 h2 h3 h4 h5 h6 h7 h8 h9 h10 h11
  try simp (disch := omega) only [Int.tmod_eq_emod_of_nonneg] at h0 h1 h2 h3 h4 h5 h6 h7 h8 h9 h10 h11
  omega
theorem exc10_2 (i : Nat → Int) (hh : Holds i [((.eq (.conv .u64 (.conv .i32 (.var 1 0 18446744073709551615))) (.ar .or .u64 (.ar .rem .u64 (.var 1 0 18446744073709551615) (.lit 4294967296)) (.lit 18446744069414584320))), false), ((.lt (.ar .or .u64 (.ar .rem .u64 (.var 1 0 18446744073709551615) (.lit 4294967296)) (.lit 18446744069414584320)) (.ar .or .u64 (.ar .rem .u64 (.var 2 0 18446744073709551615) (.lit 4294967296)) (.lit 18446744069414584320))), false), ((.lt (.ar .rem .u64 (.var 2 0 18446744073709551615) (.lit 4294967296)) (.lit 2147483648)), false), ((.lt (.ar .rem .u64 (.var 1 0 18446744073709551615) (.lit 4294967296)) (.lit 2147483648)), false), ((.lt (.conv .u32 (.var 2 0 18446744073709551615)) (.conv .u32 (.var 1 0 18446744073709551615))), true), ((.lt (.var 0 0 255) (.lit 77)), true), ((.lt (.var 0 0 255) (.lit 76)), false), ((.lt (.var 0 0 255) (.lit 75)), false), ((.lt (.var 0 0 255) (.lit 72)), false), ((.lt (.var 0 0 255) (.lit 78)), true), ((.lt (.var 0 0 255) (.lit 89)), true), ((.lt (.var 0 0 255) (.lit 67)), false)]) : False := by
  have h0 := hh _ _ (.head _)
  have h1 := hh _ _ (.tail _ (.head _))
  have h2 := hh _ _ (.tail _ (.tail _ (.head _)))
  have h3 := hh _ _ (.tail _ (.tail _ (.tail _ (.head _))))
  have h4 := hh _ _ (.tail _ (.tail _ (.tail _ (.tail _ (.head _)))))
  have h5 := hh _ _ (.tail _ (.tail _ (.tail _ (.tail _ (.tail _ (.head _))))))
  have h6 := hh _ _ (.tail _ (.tail _ (.tail _ (.tail _ (.tail _ (.tail _ (.head _)))))))
  have h7 := hh _ _ (.tail _ (.tail _ (.tail _ (.tail _ (.tail _ (.tail _ (.tail _ (.head _))))))))
  have h8 := hh _ _ (.tail _ (.tail _ (.tail _ (.tail _ (.tail _ (.tail _ (.tail _ (.tail _ (.head _)))))))))
  have h9 := hh _ _ (.tail _ (.tail _ (.tail _ (.tail _ (.tail _ (.tail _ (.tail _ (.tail _ (.tail _ (.head _))))))))))
  have h10 := hh _ _ (.tail _ (.tail _ (.tail _ (.tail _ (.tail _ (.tail _ (.tail _ (.tail _ (.tail _ (.tail _ (.head _)))))))))))
  have h11 := hh _ _ (.tail _ (.tail _ (.tail _ (.tail _ (.tail _ (.tail _ (.tail _ (.tail _ (.tail _ (.tail _ (.tail _ (.head _))))))))))))
  clear hh
  simp only [N.den, aRem, true_iff, Bool.false_eq_true, false_iff, bI_ne, ieq_iff, ilt_iff] at h0 h1 h2 h3 h4 h5 h6 h7 h8 h9 h10 h11
  generalize hA0 : max 0 (min 18446744073709551615 (i 1)) = a at *
  generalize hB0 : max 0 (min 18446744073709551615 (i 2)) = b at *
  generalize max 0 (min 255 (i 0)) = c at *
  have ha : 0 ≤ a ∧ a ≤ 18446744073709551615 := by omega
  have hb : 0 ≤ b ∧ b ≤ 18446744073709551615 := by omega
  clear hA0 hB0
  have ta : a.tmod 4294967296 = a % 4294967296 := Int.tmod_eq_emod_of_nonneg ha.1
  have tb : b.tmod 4294967296 = b % 4294967296 := Int.tmod_eq_emod_of_nonneg hb.1
  have oa := or_hi (a % 4294967296) (by omega) (by omega)
  have ob := or_hi (b % 4294967296) (by omega) (by omega)
  have xa := xor_top (a % 4294967296) (by omega) (by omega)
  have xb := xor_top (b % 4294967296) (by omega) (by omega)
  have xa2 := xor_top (a % 4294967296 + 18446744069414584320) (by omega) (by omega)
  have xb2 := xor_top (b % 4294967296 + 18446744069414584320) (by omega) (by omega)
  have xa3 := xor_top a ha.1 ha.2
  have xb3 := xor_top b hb.1 hb.2
  have wa := w_i32 a
  have wb := w_i32 b
  have va := w_i64 a
  have vb := w_i64 b
  simp only [ta, tb, oa, ob, w_u64, w_u32] at h0 h1 h2 h3 h4 h5 h6 h7 h8 h9 h10 h11
  try simp (disch := omega) only [Int.tmod_eq_emod_of_nonneg] at h0 h1 h2 h3 h4 h5 h6 h7 h8 h9 h10 h11
  omega
theorem exc10_3 (i : Nat → Int) (hh : Holds i [((.eq (.conv .u64 (.conv .i32 (.var 1 0 18446744073709551615))) (.ar .or .u64 (.ar .rem .u64 (.var 1 0 18446744073709551615) (.lit 4294967296)) (.lit 18446744069414584320))), false), ((.lt (.ar .rem .u64 (.var 2 0 18446744073709551615) (.lit 4294967296)) (.lit 2147483648)), true), ((.lt (.ar .rem .u64 (.var 1 0 18446744073709551615) (.lit 4294967296)) (.lit 2147483648)), false), ((.lt (.conv .u32 (.var 2 0 18446744073709551615)) (.conv .u32 (.var 1 0 18446744073709551615))), true), ((.lt (.var 0 0 255) (.lit 77)), true), ((.lt (.var 0 0 255) (.lit 76)), false), ((.lt (.var 0 0 255) (.lit 75)), false), ((.lt (.var 0 0 255) (.lit 72)), false), ((.lt (.var 0 0 255) (.lit 78)), true), ((.lt (.var 0 0 255) (.lit 89)), true), ((.lt (.var 0 0 255) (.lit 67)), false)]) : False := by
  have h0 := hh _ _ (.head _)
  have h1 := hh _ _ (.tail _ (.head _))
  have h2 := hh _ _ (.tail _ (.tail _ (.head _)))
  have h3 := hh _ _ (.tail _ (.tail _ (.tail _ (.head _))))
  have h4 := hh _ _ (.tail _ (.tail _ (.tail _ (.tail _ (.head _)))))
  have h5 := hh _ _ (.tail _ (.tail _ (.tail _ (.tail _ (.tail _ (.head _))))))
  have h6 := hh _ _ (.tail _ (.tail _ (.tail _ (.tail _ (.tail _ (.tail _ (.head _)))))))
  have h7 := hh _ _ (.tail _ (.tail _ (.tail _ (.tail _ (.tail _ (.tail _ (.tail _ (.head _))))))))
  have h8 := hh _ _ (.tail _ (.tail _ (.tail _ (.tail _ (.tail _ (.tail _ (.tail _ (.tail _ (.head _)))))))))
  have h9 := hh _ _ (.tail _ (.tail _ (.tail _ (.tail _ (.tail _ (.tail _ (.tail _ (.tail _ (.tail _ (.head _))))))))))
  have h10 := hh _ _ (.tail _ (.tail _ (.tail _ (.tail _ (.tail _ (.tail _ (.tail _ (.tail _ (.tail _ (.tail _ (.head _)))))))))))
  clear hh
  simp only [N.den, aRem, true_iff, Bool.false_eq_true, false_iff, bI_ne, ieq_iff, ilt_iff] at h0 h1 h2 h3 h4 h5 h6 h7 h8 h9 h10
  generalize hA0 : max 0 (min 18446744073709551615 (i 1)) = a at *
  generalize hB0 : max 0 (min 18446744073709551615 (i 2)) = b at *
  generalize max 0 (min 255 (i 0)) = c at *
  have ha : 0 ≤ a ∧ a ≤ 18446744073709551615 := by omega
  have hb : 0 ≤ b ∧ b ≤ 18446744073709551615 := by omega
  clear hA0 hB0
  have ta : a.tmod 4294967296 = a % 4294967296 := Int.tmod_eq_emod_of_nonneg ha.1
  have tb : b.tmod 4294967296 = b % 4294967296 := Int.tmod_eq_emod_of_nonneg hb.1
  have oa := or_hi (a % 4294967296) (by omega) (by omega)
  have ob := or_hi (b % 4294967296) (by omega) (by omega)
  have xa := xor_top (a % 4294967296) (by omega) (by omega)
  have xb := xor_top (b % 4294967296) (by omega) (by omega)
  have xa2 := xor_top (a % 4294967296 + 18446744069414584320) (by omega) (by omega)
  have xb2 := xor_top (b % 4294967296 + 18446744069414584320) (by omega) (by omega)
  have xa3 := xor_top a ha.1 ha.2
  have xb3 := xor_top b hb.1 hb.2
  have wa := w_i32 a
  have wb := w_i32 b
  have va := w_i64 a
  have vb := w_i64 b
  simp only [ta, tb, oa, w_u64, w_u32] at h0 h1 h2 h3 h4 h5 h6 h7 h8 h9 h10
  try simp (disch := omega) only [Int.tmod_eq_emod_of_nonneg] at h0 h1 h2 h3 h4 h5 h6 h7 h8 h9 h10
  omega
theorem exc10_4 (i : Nat → Int) (hh : Holds i [((.eq (.conv .u64 (.conv .i32 (.var 1 0 18446744073709551615))) (.ar .rem .u64 (.var 1 0 18446744073709551615) (.lit 4294967296))), false), ((.eq (.conv .u32 (.var 2 0 18446744073709551615)) (.ar .rem .u64 (.ar .rem .u64 (.var 1 0 18446744073709551615) (.lit 4294967296)) (.lit 4294967296))), true), ((.lt (.ar .rem .u64 (.var 2 0 18446744073709551615) (.lit 4294967296)) (.lit 2147483648)), false), ((.lt (.ar .rem .u64 (.var 1 0 18446744073709551615) (.lit 4294967296)) (.lit 2147483648)), true), ((.lt (.conv .u32 (.var 2 0 18446744073709551615)) (.conv .u32 (.var 1 0 18446744073709551615))), true), ((.lt (.var 0 0 255) (.lit 77)), true), ((.lt (.var 0 0 255) (.lit 76)), false), ((.lt (.var 0 0 255) (.lit 75)), false), ((.lt (.var 0 0 255) (.lit 72)), false), ((.lt (.var 0 0 255) (.lit 78)), true), ((.lt (.var 0 0 255) (.lit 89)), true), ((.lt (.var 0 0 255) (.lit 67)), false)]) : False := by
  have h0 := hh _ _ (.head _)
  have h1 := hh _ _ (.tail _ (.head _))
  have h2 := hh _ _ (.tail _ (.tail _ (.head _)))
  have h3 := hh _ _ (.tail _ (.tail _ (.tail _ (.head _))))
  have h4 := hh _ _ (.tail _ (.tail _ (.tail _ (.tail _ (.head _)))))
  have h5 := hh _ _ (.tail _ (.tail _ (.tail _ (.tail _ (.tail _ (.head _))))))
  have h6 := hh _ _ (.tail _ (.tail _ (.tail _ (.tail _ (.tail _ (.tail _ (.head _)))))))
  have h7 := hh _ _ (.tail _ (.tail _ (.tail _ (.tail _ (.tail _ (.tail _ (.tail _ (.head _))))))))
  have h8 := hh _ _ (.tail _ (.tail _ (.tail _ (.tail _ (.tail _ (.tail _ (.tail _ (.tail _ (.head _)))))))))
  have h9 := hh _ _ (.tail _ (.tail _ (.tail _ (.tail _ (.tail _ (.tail _ (.tail _ (.tail _ (.tail _ (.head _))))))))))
  have h10 := hh _ _ (.tail _ (.tail _ (.tail _ (.tail _ (.tail _ (.tail _ (.tail _ (.tail _ (.tail _ (.tail _ (.head _)))))))))))
  have h11 := hh _ _ (.tail _ (.tail _ (.tail _ (.tail _ (.tail _ (.tail _ (.tail _ (.tail _ (.tail _ (.tail _ (.tail _ (.head _))))))))))))
  clear hh
  simp only [N.den, aRem, true_iff, Bool.false_eq_true, false_iff, bI_ne, ieq_iff, ilt_iff] at h0 h1 h2 h3 h4 h5 h6 h7 h8 h9 h10 h11
  generalize hA0 : max 0 (min 18446744073709551615 (i 1)) = a at *
  generalize hB0 : max 0 (min 18446744073709551615 (i 2)) = b at *
  generalize max 0 (min 255 (i 0)) = c at *
  have ha : 0 ≤ a ∧ a ≤ 18446744073709551615 := by omega
  have hb : 0 ≤ b ∧ b ≤ 18446744073709551615 := by omega
  clear hA0 hB0
  have ta : a.tmod 4294967296 = a % 4294967296 := Int.tmod_eq_emod_of_nonneg ha.1
  have tb : b.tmod 4294967296 = b % 4294967296 := Int.tmod_eq_emod_of_nonneg hb.1
  have oa := or_hi (a % 4294967296) (by omega) (by omega)
  have ob := or_hi (b % 4294967296) (by omega) (by omega)
  have xa := xor_top (a % 4294967296) (by omega) (by omega)
  have xb := xor_top (b % 4294967296) (by omega) (by omega)
  have xa2 := xor_top (a % 4294967296 + 18446744069414584320) (by omega) (by omega)
  have xb2 := xor_top (b % 4294967296 + 18446744069414584320) (by omega) (by omega)
  have xa3 := xor_top a ha.1 ha.2
  have xb3 := xor_top b hb.1 hb.2
  have wa := w_i32 a
  have wb := w_i32 b
  have va := w_i64 a
  have vb := w_i64 b
  simp only [ta, tb, w_u64, w_u32] at h0 h1 h2 h3 h4 h5 h6 h7 h8 h9 h10 h11
  try simp (disch := omega) only [Int.tmod_eq_emod_of_nonneg] at h0 h1 h2 h3 h4 h5 h6 h7 h8 h9 h10 h11
  omega
theorem exc10_5 (i : Nat → Int) (hh : Holds i [((.eq (.conv .u32 (.var 2 0 18446744073709551615)) (.ar .rem .u64 (.ar .rem .u64 (.var 1 0 18446744073709551615) (.lit 4294967296)) (.lit 4294967296))), false), ((.lt (.ar .rem .u64 (.var 2 0 18446744073709551615) (.lit 4294967296)) (.lit 2147483648)), false), ((.lt (.ar .rem .u64 (.var 1 0 18446744073709551615) (.lit 4294967296)) (.lit 2147483648)), true), ((.lt (.conv .u32 (.var 2 0 18446744073709551615)) (.conv .u32 (.var 1 0 18446744073709551615))), true), ((.lt (.var 0 0 255) (.lit 77)), true), ((.lt (.var 0 0 255) (.lit 76)), false), ((.lt (.var 0 0 255) (.lit 75)), false), ((.lt (.var 0 0 255) (.lit 72)), false), ((.lt (.var 0 0 255) (.lit 78)), true), ((.lt (.var 0 0 255) (.lit 89)), true), ((.lt (.var 0 0 255) (.lit 67)), false)]) : False := by
  have h0 := hh _ _ (.head _)
  have h1 := hh _ _ (.tail _ (.head _))
  have h2 := hh _ _ (.tail _ (.tail _ (.head _)))
  have h3 := hh _ _ (.tail _ (.tail _ (.tail _ (.head _))))
  have h4 := hh _ _ (.tail _ (.tail _ (.tail _ (.tail _ (.head _)))))
  have h5 := hh _ _ (.tail _ (.tail _ (.tail _ (.tail _ (.tail _ (.head _))))))
  have h6 := hh _ _ (.tail _ (.tail _ (.tail _ (.tail _ (.tail _ (.tail _ (.head _)))))))
  have h7 := hh _ _ (.tail _ (.tail _ (.tail _ (.tail _ (.tail _ (.tail _ (.tail _ (.head _))))))))
  have h8 := hh _ _ (.tail _ (.tail _ (.tail _ (.tail _ (.tail _ (.tail _ (.tail _ (.tail _ (.head _)))))))))
  have h9 := hh _ _ (.tail _ (.tail _ (.tail _ (.tail _ (.tail _ (.tail _ (.tail _ (.tail _ (.tail _ (.head _))))))))))
  have h10 := hh _ _ (.tail _ (.tail _ (.tail _ (.tail _ (.tail _ (.tail _ (.tail _ (.tail _ (.tail _ (.tail _ (.head _)))))))))))
  clear hh
  simp only [N.den, aRem, true_iff, Bool.false_eq_true, false_iff, bI_ne, ieq_iff, ilt_iff] at h0 h1 h2 h3 h4 h5 h6 h7 h8 h9 h10
  generalize hA0 : max 0 (min 18446744073709551615 (i 1)) = a at *
  generalize hB0 : max 0 (min 18446744073709551615 (i 2)) = b at *
  generalize max 0 (min 255 (i 0)) = c at *
  have ha : 0 ≤ a ∧ a ≤ 18446744073709551615 := by omega
  have hb : 0 ≤ b ∧ b ≤ 18446744073709551615 := by omega
  clear hA0 hB0
  have ta : a.tmod 4294967296 = a % 4294967296 := Int.tmod_eq_emod_of_nonneg ha.1
  have tb : b.tmod 4294967296 = b % 4294967296 := Int.tmod_eq_emod_of_nonneg hb.1
  have oa := or_hi (a % 4294967296) (by omega) (by omega)
  have ob := or_hi (b % 4294967296) (by omega) (by omega)
  have xa := xor_top (a % 4294967296) (by omega) (by omega)
  have xb := xor_top (b % 4294967296) (by omega) (by omega)
  have xa2 := xor_top (a % 4294967296 + 18446744069414584320) (by omega) (by omega)
  have xb2 := xor_top (b % 4294967296 + 18446744069414584320) (by omega) (by omega)
  have xa3 := xor_top a ha.1 ha.2
  have xb3 := xor_top b hb.1 hb.2
  have wa := w_i32 a
  have wb := w_i32 b
  have va := w_i64 a
  have vb := w_i64 b
  simp only [ta, tb, w_u32] at h0 h1 h2 h3 h4 h5 h6 h7 h8 h9 h10
  try simp (disch := omega) only [Int.tmod_eq_emod_of_nonneg] at h0 h1 h2 h3 h4 h5 h6 h7 h8 h9 h10
  omega
theorem exc10_6 (i : Nat → Int) (hh : Holds i [((.eq (.conv .u64 (.conv .i32 (.var 1 0 18446744073709551615))) (.ar .rem .u64 (.var 1 0 18446744073709551615) (.lit 4294967296))), false), ((.eq (.conv .u32 (.var 2 0 18446744073709551615)) (.ar .rem .u64 (.ar .rem .u64 (.var 1 0 18446744073709551615) (.lit 4294967296)) (.lit 4294967296))), true), ((.lt (.ar .rem .u64 (.var 1 0 18446744073709551615) (.lit 4294967296)) (.ar .rem .u64 (.var 2 0 18446744073709551615) (.lit 4294967296))), true), ((.lt (.ar .rem .u64 (.var 2 0 18446744073709551615) (.lit 4294967296)) (.lit 2147483648)), true), ((.lt (.ar .rem .u64 (.var 1 0 18446744073709551615) (.lit 4294967296)) (.lit 2147483648)), true), ((.lt (.conv .u32 (.var 2 0 18446744073709551615)) (.conv .u32 (.var 1 0 18446744073709551615))), true), ((.lt (.var 0 0 255) (.lit 77)), true), ((.lt (.var 0 0 255) (.lit 76)), false), ((.lt (.var 0 0 255) (.lit 75)), false), ((.lt (.var 0 0 255) (.lit 72)), false), ((.lt (.var 0 0 255) (.lit 78)), true), ((.lt (.var 0 0 255) (.lit 89)), true), ((.lt (.var 0 0 255) (.lit 67)), false)]) : False := by
  have h0 := hh _ _ (.head _)
  have h1 := hh _ _ (.tail _ (.head _))
  have h2 := hh _ _ (.tail _ (.tail _ (.head _)))
  have h3 := hh _ _ (.tail _ (.tail _ (.tail _ (.head _))))
  have h4 := hh _ _ (.tail _ (.tail _ (.tail _ (.tail _ (.head _)))))
  have h5 := hh _ _ (.tail _ (.tail _ (.tail _ (.tail _ (.tail _ (.head _))))))
  have h6 := hh _ _ (.tail _ (.tail _ (.tail _ (.tail _ (.tail _ (.tail _ (.head _)))))))
  have h7 := hh _ _ (.tail _ (.tail _ (.tail _ (.tail _ (.tail _ (.tail _ (.tail _ (.head _))))))))
  have h8 := hh _ _ (.tail _ (.tail _ (.tail _ (.tail _ (.tail _ (.tail _ (.tail _ (.tail _ (.head _)))))))))
  have h9 := hh _ _ (.tail _ (.tail _ (.tail _ (.tail _ (.tail _ (.tail _ (.tail _ (.tail _ (.tail _ (.head _))))))))))
  have h10 := hh _ _ (.tail _ (.tail _ (.tail _ (.tail _ (.tail _ (.tail _ (.tail _ (.tail _ (.tail _ (.tail _ (.head _)))))))))))
  have h11 := hh _ _ (.tail _ (.tail _ (.tail _ (.tail _ (.tail _ (.tail _ (.tail _ (.tail _ (.tail _ (.tail _ (.tail _ (.head _))))))))))))
  have h12 := hh _ _ (.tail _ (.tail _ (.tail _ (.tail _ (.tail _ (.tail _ (.tail _ (.tail _ (.tail _ (.tail _ (.tail _ (.tail _ (.head _)))))))))))))
  clear hh
  simp only [N.den, aRem, true_iff, Bool.false_eq_true, false_iff, bI_ne, ieq_iff, ilt_iff] at h0 h1 h2 h3 h4 h5 h6 h7 h8 h9 h10 h11 h12
  generalize hA0 : max 0 (min 18446744073709551615 (i 1)) = a at *
  generalize hB0 : max 0 (min 18446744073709551615 (i 2)) = b at *
  generalize max 0 (min 255 (i 0)) = c at *
  have ha : 0 ≤ a ∧ a ≤ 18446744073709551615 := by omega
  have hb : 0 ≤ b ∧ b ≤ 18446744073709551615 := by omega
  clear hA0 hB0
  have ta : a.tmod 4294967296 = a % 4294967296 := Int.tmod_eq_emod_of_nonneg ha.1
  have tb : b.tmod 4294967296 = b % 4294967296 := Int.tmod_eq_emod_of_nonneg hb.1
  have oa := or_hi (a % 4294967296) (by omega) (by omega)
  have ob := or_hi (b % 4294967296) (by omega) (by omega)
  have xa := xor_top (a % 4294967296) (by omega) (by omega)
  have xb := xor_top (b % 4294967296) (by omega) (by omega)
  have xa2 := xor_top (a % 4294967296 + 18446744069414584320) (by omega) (by omega)
  have xb2 := xor_top (b % 4294967296 + 18446744069414584320) (by omega) (by omega)
  have xa3 := xor_top a ha.1 ha.2
  have xb3 := xor_top b hb.1 hb.2
  have wa := w_i32 a
  have wb := w_i32 b
  have va := w_i64 a
  have vb := w_i64 b
  simp only [ta, tb, w_u64, w_u32] at h0 h1 h2 h3 h4 h5 h6 h7 h8 h9 h10 h11 h12
  try simp (disch := omega) only [Int.tmod_eq_emod_of_nonneg] at h0 h1 h2 h3 h4 h5 h6 h7 h8 h9 h10 h11 h12
  omega
theorem exc10_7 (i : Nat → Int) (hh : Holds i [((.eq (.conv .u32 (.var 2 0 18446744073709551615)) (.ar .rem .u64 (.ar .rem .u64 (.var 1 0 18446744073709551615) (.lit 4294967296)) (.lit 4294967296))), false), ((.lt (.ar .rem .u64 (.var 1 0 18446744073709551615) (.lit 4294967296)) (.ar .rem .u64 (.var 2 0 18446744073709551615) (.lit 4294967296))), true), ((.lt (.ar .rem .u64 (.var 2 0 18446744073709551615) (.lit 4294967296)) (.lit 2147483648)), true), ((.lt (.ar .rem .u64 (.var 1 0 18446744073709551615) (.lit 4294967296)) (.lit 2147483648)), true), ((.lt (.conv .u32 (.var 2 0 18446744073709551615)) (.conv .u32 (.var 1 0 18446744073709551615))), true), ((.lt (.var 0 0 255) (.lit 77)), true), ((.lt (.var 0 0 255) (.lit 76)), false), ((.lt (.var 0 0 255) (.lit 75)), false), ((.lt (.var 0 0 255) (.lit 72)), false), ((.lt (.var 0 0 255) (.lit 78)), true), ((.lt (.var 0 0 255) (.lit 89)), true), ((.lt (.var 0 0 255) (.lit 67)), false)]) : False := by
  have h0 := hh _ _ (.head _)
  have h1 := hh _ _ (.tail _ (.head _))
  have h2 := hh _ _ (.tail _ (.tail _ (.head _)))
  have h3 := hh _ _ (.tail _ (.tail _ (.tail _ (.head _))))
  have h4 := hh _ _ (.tail _ (.tail _ (.tail _ (.tail _ (.head _)))))
  have h5 := hh _ _ (.tail _ (.tail _ (.tail _ (.tail _ (.tail _ (.head _))))))
  have h6 := hh _ _ (.tail _ (.tail _ (.tail _ (.tail _ (.tail _ (.tail _ (.head _)))))))
  have h7 := hh _ _ (.tail _ (.tail _ (.tail _ (.tail _ (.tail _ (.tail _ (.tail _ (.head _))))))))
  have h8 := hh _ _ (.tail _ (.tail _ (.tail _ (.tail _ (.tail _ (.tail _ (.tail _ (.tail _ (.head _)))))))))
  have h9 := hh _ _ (.tail _ (.tail _ (.tail _ (.tail _ (.tail _ (.tail _ (.tail _ (.tail _ (.tail _ (.head _))))))))))
  have h10 := hh _ _ (.tail _ (.tail _ (.tail _ (.tail _ (.tail _ (.tail _ (.tail _ (.tail _ (.tail _ (.tail _ (.head _)))))))))))
  have h11 := hh _ _ (.tail _ (.tail _ (.tail _ (.tail _ (.tail _ (.tail _ (.tail _ (.tail _ (.tail _ (.tail _ (.tail _ (.head _))))))))))))
  clear hh
  simp only [N.den, aRem, true_iff, Bool.false_eq_true, false_iff, bI_ne, ieq_iff, ilt_iff] at h0 h1 h2 h3 h4 h5 h6 h7 h8 h9 h10 h11
  generalize hA0 : max 0 (min 18446744073709551615 (i 1)) = a at *
  generalize hB0 : max 0 (min 18446744073709551615 (i 2)) = b at *
  generalize max 0 (min 255 (i 0)) = c at *
  have ha : 0 ≤ a ∧ a ≤ 18446744073709551615 := by omega
  have hb : 0 ≤ b ∧ b ≤ 18446744073709551615 := by omega
  clear hA0 hB0
  have ta : a.tmod 4294967296 = a % 4294967296 := Int.tmod_eq_emod_of_nonneg ha.1
  have tb : b.tmod 4294967296 = b % 4294967296 := Int.tmod_eq_emod_of_nonneg hb.1
  have oa := or_hi (a % 4294967296) (by omega) (by omega)
  have ob := or_hi (b % 4294967296) (by omega) (by omega)
  have xa := xor_top (a % 4294967296) (by omega) (by omega)
  have xb := xor_top (b % 4294967296) (by omega) (by omega)
  have xa2 := xor_top (a % 4294967296 + 18446744069414584320) (by omega) (by omega)
  have xb2 := xor_top (b % 4294967296 + 18446744069414584320) (by omega) (by omega)
  have xa3 := xor_top a ha.1 ha.2
  have xb3 := xor_top b hb.1 hb.2
  have wa := w_i32 a
  have wb := w_i32 b
  have va := w_i64 a
  have vb := w_i64 b
  simp only [ta, tb, w_u32] at h0 h1 h2 h3 h4 h5 h6 h7 h8 h9 h10 h11
  try simp (disch := omega) only [Int.tmod_eq_emod_of_nonneg] at h0 h1 h2 h3 h4 h5 h6 h7 h8 h9 h10 h11
  omega
theorem exc10_8 (i : Nat → Int) (hh : Holds i [((.eq (.conv .u64 (.conv .i32 (.var 1 0 18446744073709551615))) (.ar .rem .u64 (.var 1 0 18446744073709551615) (.lit 4294967296))), false), ((.lt (.ar .rem .u64 (.var 1 0 18446744073709551615) (.lit 4294967296)) (.ar .rem .u64 (.var 2 0 18446744073709551615) (.lit 4294967296))), false), ((.lt (.ar .rem .u64 (.var 2 0 18446744073709551615) (.lit 4294967296)) (.lit 2147483648)), true), ((.lt (.ar .rem .u64 (.var 1 0 18446744073709551615) (.lit 4294967296)) (.lit 2147483648)), true), ((.lt (.conv .u32 (.var 2 0 18446744073709551615)) (.conv .u32 (.var 1 0 18446744073709551615))), true), ((.lt (.var 0 0 255) (.lit 77)), true), ((.lt (.var 0 0 255) (.lit 76)), false), ((.lt (.var 0 0 255) (.lit 75)), false), ((.lt (.var 0 0 255) (.lit 72)), false), ((.lt (.var 0 0 255) (.lit 78)), true), ((.lt (.var 0 0 255) (.lit 89)), true), ((.lt (.var 0 0 255) (.lit 67)), false)]) : False := by
  have h0 := hh _ _ (.head _)
  have h1 := hh _ _ (.tail _ (.head _))
  have h2 := hh _ _ (.tail _ (.tail _ (.head _)))
  have h3 := hh _ _ (.tail _ (.tail _ (.tail _ (.head _))))
  have h4 := hh _ _ (.tail _ (.tail _ (.tail _ (.tail _ (.head _)))))
  have h5 := hh _ _ (.tail _ (.tail _ (.tail _ (.tail _ (.tail _ (.head _))))))
  have h6 := hh _ _ (.tail _ (.tail _ (.tail _ (.tail _ (.tail _ (.tail _ (.head _)))))))
  have h7 := hh _ _ (.tail _ (.tail _ (.tail _ (.tail _ (.tail _ (.tail _ (.tail _ (.head _))))))))
  have h8 := hh _ _ (.tail _ (.tail _ (.tail _ (.tail _ (.tail _ (.tail _ (.tail _ (.tail _ (.head _)))))))))
  have h9 := hh _ _ (.tail _ (.tail _ (.tail _ (.tail _ (.tail _ (.tail _ (.tail _ (.tail _ (.tail _ (.head _))))))))))
  have h10 := hh _ _ (.tail _ (.tail _ (.tail _ (.tail _ (.tail _ (.tail _ (.tail _ (.tail _ (.tail _ (.tail _ (.head _)))))))))))
  have h11 := hh _ _ (.tail _ (.tail _ (.tail _ (.tail _ (.tail _ (.tail _ (.tail _ (.tail _ (.tail _ (.tail _ (.tail _ (.head _))))))))))))
  clear hh
  simp only [N.den, aRem, true_iff, Bool.false_eq_true, false_iff, bI_ne, ieq_iff, ilt_iff] at h0 h1 h2 h3 h4 h5 h6 h7 h8 h9 h10 h11
  generalize hA0 : max 0 (min 18446744073709551615 (i 1)) = a at *
  generalize hB0 : max 0 (min 18446744073709551615 (i 2)) = b at *
  generalize max 0 (min 255 (i 0)) = c at *
  have ha : 0 ≤ a ∧ a ≤ 18446744073709551615 := by omega
  have hb : 0 ≤ b ∧ b ≤ 18446744073709551615 := by omega
  clear hA0 hB0
  have ta : a.tmod 4294967296 = a % 4294967296 := Int.tmod_eq_emod_of_nonneg ha.1
  have tb : b.tmod 4294967296 = b % 4294967296 := Int.tmod_eq_emod_of_nonneg hb.1
  have oa := or_hi (a % 4294967296) (by omega) (by omega)
  have ob := or_hi (b % 4294967296) (by omega) (by omega)
  have xa := xor_top (a % 4294967296) (by omega) (by omega)
  have xb := xor_top (b % 4294967296) (by omega) (by omega)
  have xa2 := xor_top (a % 4294967296 + 18446744069414584320) (by omega) (by omega)
  have xb2 := xor_top (b % 4294967296 + 18446744069414584320) (by omega) (by omega)
  have xa3 := xor_top a ha.1 ha.2
  have xb3 := xor_top b hb.1 hb.2
  have wa := w_i32 a
  have wb := w_i32 b
  have va := w_i64 a
  have vb := w_i64 b
  simp only [ta, tb, w_u64, w_u32] at h0 h1 h2 h3 h4 h5 h6 h7 h8 h9 h10 h11
  try simp (disch := omega) only [Int.tmod_eq_emod_of_nonneg] at h0 h1 h2 h3 h4 h5 h6 h7 h8 h9 h10 h11
  omega
theorem exc10_9 (i : Nat → Int) (hh : Holds i [((.eq (.conv .u64 (.conv .i32 (.var 1 0 18446744073709551615))) (.ar .or .u64 (.ar .rem .u64 (.var 1 0 18446744073709551615) (.lit 4294967296)) (.lit 18446744069414584320))), false), ((.lt (.ar .or .u64 (.ar .rem .u64 (.var 1 0 18446744073709551615) (.lit 4294967296)) (.lit 18446744069414584320)) (.ar .or .u64 (.ar .rem .u64 (.var 2 0 18446744073709551615) (.lit 4294967296)) (.lit 18446744069414584320))), true), ((.lt (.ar .rem .u64 (.var 2 0 18446744073709551615) (.lit 4294967296)) (.lit 2147483648)), false), ((.lt (.ar .rem .u64 (.var 1 0 18446744073709551615) (.lit 4294967296)) (.lit 2147483648)), false), ((.lt (.conv .u32 (.var 2 0 18446744073709551615)) (.conv .u32 (.var 1 0 18446744073709551615))), false), ((.lt (.var 0 0 255) (.lit 77)), true), ((.lt (.var 0 0 255) (.lit 76)), false), ((.lt (.var 0 0 255) (.lit 75)), false), ((.lt (.var 0 0 255) (.lit 72)), false), ((.lt (.var 0 0 255) (.lit 78)), true), ((.lt (.var 0 0 255) (.lit 89)), true), ((.lt (.var 0 0 255) (.lit 67)), false)]) : False := by
  have h0 := hh _ _ (.head _)
  have h1 := hh _ _ (.tail _ (.head _))
  have h2 := hh _ _ (.tail _ (.tail _ (.head _)))
  have h3 := hh _ _ (.tail _ (.tail _ (.tail _ (.head _))))
  have h4 := hh _ _ (.tail _ (.tail _ (.tail _ (.tail _ (.head _)))))
  have h5 := hh _ _ (.tail _ (.tail _ (.tail _ (.tail _ (.tail _ (.head _))))))
  have h6 := hh _ _ (.tail _ (.tail _ (.tail _ (.tail _ (.tail _ (.tail _ (.head _)))))))
  have h7 := hh _ _ (.tail _ (.tail _ (.tail _ (.tail _ (.tail _ (.tail _ (.tail _ (.head _))))))))
  have h8 := hh _ _ (.tail _ (.tail _ (.tail _ (.tail _ (.tail _ (.tail _ (.tail _ (.tail _ (.head _)))))))))
  have h9 := hh _ _ (.tail _ (.tail _ (.tail _ (.tail _ (.tail _ (.tail _ (.tail _ (.tail _ (.tail _ (.head _))))))))))
  have h10 := hh _ _ (.tail _ (.tail _ (.tail _ (.tail _ (.tail _ (.tail _ (.tail _ (.tail _ (.tail _ (.tail _ (.head _)))))))))))
  have h11 := hh _ _ (.tail _ (.tail _ (.tail _ (.tail _ (.tail _ (.tail _ (.tail _ (.tail _ (.tail _ (.tail _ (.tail _ (.head _))))))))))))
  clear hh
  simp only [N.den, aRem, true_iff, Bool.false_eq_true, false_iff, bI_ne, ieq_iff, ilt_iff] at h0 h1 h2 h3 h4 h5 h6 h7 h8 h9 h10 h11
  generalize hA0 : max 0 (min 18446744073709551615 (i 1)) = a at *
  generalize hB0 : max 0 (min 18446744073709551615 (i 2)) = b at *
  generalize max 0 (min 255 (i 0)) = c at *
  have ha : 0 ≤ a ∧ a ≤ 18446744073709551615 := by omega
  have hb : 0 ≤ b ∧ b ≤ 18446744073709551615 := by omega
  clear hA0 hB0
  have ta : a.tmod 4294967296 = a % 4294967296 := Int.tmod_eq_emod_of_nonneg ha.1
  have tb : b.tmod 4294967296 = b % 4294967296 := Int.tmod_eq_emod_of_nonneg hb.1
  have oa := or_hi (a % 4294967296) (by omega) (by omega)
  have ob := or_hi (b % 4294967296) (by omega) (by omega)
  have xa := xor_top (a % 4294967296) (by omega) (by omega)
  have xb := xor_top (b % 4294967296) (by omega) (by omega)
  have xa2 := xor_top (a % 4294967296 + 18446744069414584320) (by omega) (by omega)
  have xb2 := xor_top (b % 4294967296 + 18446744069414584320) (by omega) (by omega)
  have xa3 := xor_top a ha.1 ha.2
  have xb3 := xor_top b hb.1 hb.2
  have wa := w_i32 a
  have wb := w_i32 b
  have va := w_i64 a
  have vb := w_i64 b
  simp only [ta, tb, oa, ob, w_u64, w_u32] at h0 h1 h2 h3 h4 h5 h6 h7 h8 h9 h10 h11
  try simp (disch := omega) only [Int.tmod_eq_emod_of_nonneg] at h0 h1 h2 h3 h4 h5 h6 h7 h8 h9 h10 h11
  omega
theorem exc10_10 (i : Nat → Int) (hh : Holds i [((.eq (.conv .u64 (.conv .i32 (.var 1 0 18446744073709551615))) (.ar .or .u64 (.ar .rem .u64 (.var 1 0 18446744073709551615) (.lit 4294967296)) (.lit 18446744069414584320))), false), ((.eq (.conv .u32 (.var 1 0 18446744073709551615)) (.ar .rem .u64 (.ar .or .u64 (.ar .rem .u64 (.var 2 0 18446744073709551615) (.lit 4294967296)) (.lit 18446744069414584320)) (.lit 4294967296))), true), ((.lt (.ar .or .u64 (.ar .rem .u64 (.var 1 0 18446744073709551615) (.lit 4294967296)) (.lit 18446744069414584320)) (.ar .or .u64 (.ar .rem .u64 (.var 2 0 18446744073709551615) (.lit 4294967296)) (.lit 18446744069414584320))), false), ((.lt (.ar .rem .u64 (.var 2 0 18446744073709551615) (.lit 4294967296)) (.lit 2147483648)), false), ((.lt (.ar .rem .u64 (.var 1 0 18446744073709551615) (.lit 4294967296)) (.lit 2147483648)), false), ((.lt (.conv .u32 (.var 2 0 18446744073709551615)) (.conv .u32 (.var 1 0 18446744073709551615))), false), ((.lt (.var 0 0 255) (.lit 77)), true), ((.lt (.var 0 0 255) (.lit 76)), false), ((.lt (.var 0 0 255) (.lit 75)), false), ((.lt (.var 0 0 255) (.lit 72)), false), ((.lt (.var 0 0 255) (.lit 78)), true), ((.lt (.var 0 0 255) (.lit 89)), true), ((.lt (.var 0 0 255) (.lit 67)), false)]) : False := by
  have h0 := hh _ _ (.head _)
  have h1 := hh _ _ (.tail _ (.head _))
  have h2 := hh _ _ (.tail _ (.tail _ (.head _)))
  have h3 := hh _ _ (.tail _ (.tail _ (.tail _ (.head _))))
  have h4 := hh _ _ (.tail _ (.tail _ (.tail _ (.tail _ (.head _)))))
  have h5 := hh _ _ (.tail _ (.tail _ (.tail _ (.tail _ (.tail _ (.head _))))))
  have h6 := hh _ _ (.tail _ (.tail _ (.tail _ (.tail _ (.tail _ (.tail _ (.head _)))))))
  have h7 := hh _ _ (.tail _ (.tail _ (.tail _ (.tail _ (.tail _ (.tail _ (.tail _ (.head _))))))))
  have h8 := hh _ _ (.tail _ (.tail _ (.tail _ (.tail _ (.tail _ (.tail _ (.tail _ (.tail _ (.head _)))))))))
  have h9 := hh _ _ (.tail _ (.tail _ (.tail _ (.tail _ (.tail _ (.tail _ (.tail _ (.tail _ (.tail _ (.head _))))))))))
  have h10 := hh _ _ (.tail _ (.tail _ (.tail _ (.tail _ (.tail _ (.tail _ (.tail _ (.tail _ (.tail _ (.tail _ (.head _)))))))))))
  have h11 := hh _ _ (.tail _ (.tail _ (.tail _ (.tail _ (.tail _ (.tail _ (.tail _ (.tail _ (.tail _ (.tail _ (.tail _ (.head _))))))))))))
  have h12 := hh _ _ (.tail _ (.tail _ (.tail _ (.tail _ (.tail _ (.tail _ (.tail _ (.tail _ (.tail _ (.tail _ (.tail _ (.tail _ (.head _)))))))))))))
  clear hh
  simp only [N.den, aRem, true_iff, Bool.false_eq_true, false_iff, bI_ne, ieq_iff, ilt_iff] at h0 h1 h2 h3 h4 h5 h6 h7 h8 h9 h10 h11 h12
  generalize hA0 : max 0 (min 18446744073709551615 (i 1)) = a at *
  generalize hB0 : max 0 (min 18446744073709551615 (i 2)) = b at *
  generalize max 0 (min 255 (i 0)) = c at *
  have ha : 0 ≤ a ∧ a ≤ 18446744073709551615 := by omega
  have hb : 0 ≤ b ∧ b ≤ 18446744073709551615 := by omega
  clear hA0 hB0
  have ta : a.tmod 4294967296 = a % 4294967296 := Int.tmod_eq_emod_of_nonneg ha.1
  have tb : b.tmod 4294967296 = b % 4294967296 := Int.tmod_eq_emod_of_nonneg hb.1
  have oa := or_hi (a % 4294967296) (by omega) (by omega)
  have ob := or_hi (b % 4294967296) (by omega) (by omega)
  have xa := xor_top (a % 4294967296) (by omega) (by omega)
  have xb := xor_top (b % 4294967296) (by omega) (by omega)
  have xa2 := xor_top (a % 4294967296 + 18446744069414584320) (by omega) (by omega)
  have xb2 := xor_top (b % 4294967296 + 18446744069414584320) (by omega) (by omega)
  have xa3 := xor_top a ha.1 ha.2
  have xb3 := xor_top b hb.1 hb.2
  have wa := w_i32 a
  have wb := w_i32 b
  have va := w_i64 a
  have vb := w_i64 b
  simp only [ta, tb, oa, ob, w_u64, w_u32] at h0 h1 h2 h3 h4 h5 h6 h7 h8 h9 h10 h11 h12
  try simp (disch := omega) only [Int.tmod_eq_emod_of_nonneg] at h0 h1 h2 h3 h4 h5 h6 h7 h8 h9 h10 h11 h12
  omega
theorem exc10_11 (i : Nat → Int) (hh : Holds i [((.eq (.conv .u32 (.var 1 0 18446744073709551615)) (.ar .rem .u64 (.ar .or .u64 (.ar .rem .u64 (.var 2 0 18446744073709551615) (.lit 4294967296)) (.lit 18446744069414584320)) (.lit 4294967296))), false), ((.lt (.ar .or .u64 (.ar .rem .u64 (.var 1 0 18446744073709551615) (.lit 4294967296)) (.lit 18446744069414584320)) (.ar .or .u64 (.ar .rem .u64 (.var 2 0 18446744073709551615) (.lit 4294967296)) (.lit 18446744069414584320))), false), ((.lt (.ar .rem .u64 (.var 2 0 18446744073709551615) (.lit 4294967296)) (.lit 2147483648)), false), ((.lt (.ar .rem .u64 (.var 1 0 18446744073709551615) (.lit 4294967296)) (.lit 2147483648)), false), ((.lt (.conv .u32 (.var 2 0 18446744073709551615)) (.conv .u32 (.var 1 0 18446744073709551615))), false), ((.lt (.var 0 0 255) (.lit 77)), true), ((.lt (.var 0 0 255) (.lit 76)), false), ((.lt (.var 0 0 255) (.lit 75)), false), ((.lt (.var 0 0 255) (.lit 72)), false), ((.lt (.var 0 0 255) (.lit 78)), true), ((.lt (.var 0 0 255) (.lit 89)), true), ((.lt (.var 0 0 255) (.lit 67)), false)]) : False := by
  have h0 := hh _ _ (.head _)
  have h1 := hh _ _ (.tail _ (.head _))
  have h2 := hh _ _ (.tail _ (.tail _ (.head _)))
  have h3 := hh _ _ (.tail _ (.tail _ (.tail _ (.head _))))
  have h4 := hh _ _ (.tail _ (.tail _ (.tail _ (.tail _ (.head _)))))
  have h5 := hh _ _ (.tail _ (.tail _ (.tail _ (.tail _ (.tail _ (.head _))))))
  have h6 := hh _ _ (.tail _ (.tail _ (.tail _ (.tail _ (.tail _ (.tail _ (.head _)))))))
  have h7 := hh _ _ (.tail _ (.tail _ (.tail _ (.tail _ (.tail _ (.tail _ (.tail _ (.head _))))))))
  have h8 := hh _ _ (.tail _ (.tail _ (.tail _ (.tail _ (.tail _ (.tail _ (.tail _ (.tail _ (.head _)))))))))
  have h9 := hh _ _ (.tail _ (.tail _ (.tail _ (.tail _ (.tail _ (.tail _ (.tail _ (.tail _ (.tail _ (.head _))))))))))
  have h10 := hh _ _ (.tail _ (.tail _ (.tail _ (.tail _ (.tail _ (.tail _ (.tail _ (.tail _ (.tail _ (.tail _ (.head _)))))))))))
  have h11 := hh _ _ (.tail _ (.tail _ (.tail _ (.tail _ (.tail _ (.tail _ (.tail _ (.tail _ (.tail _ (.tail _ (.tail _ (.head _))))))))))))
  clear hh
  simp only [N.den, aRem, true_iff, Bool.false_eq_true, false_iff, bI_ne, ieq_iff, ilt_iff] at h0 h1 h2 h3 h4 h5 h6 h7 h8 h9 h10 h11
  generalize hA0 : max 0 (min 18446744073709551615 (i 1)) = a at *
  generalize hB0 : max 0 (min 18446744073709551615 (i 2)) = b at *
  generalize max 0 (min 255 (i 0)) = c at *
  have ha : 0 ≤ a ∧ a ≤ 18446744073709551615 := by omega
  have hb : 0 ≤ b ∧ b ≤ 18446744073709551615 := by omega
  clear hA0 hB0
  have ta : a.tmod 4294967296 = a % 4294967296 := Int.tmod_eq_emod_of_nonneg ha.1
  have tb : b.tmod 4294967296 = b % 4294967296 := Int.tmod_eq_emod_of_nonneg hb.1
  have oa := or_hi (a % 4294967296) (by omega) (by omega)
  have ob := or_hi (b % 4294967296) (by omega) (by omega)
  have xa := xor_top (a % 4294967296) (by omega) (by omega)
  have xb := xor_top (b % 4294967296) (by omega) (by omega)
  have xa2 := xor_top (a % 4294967296 + 18446744069414584320) (by omega) (by omega)
  have xb2 := xor_top (b % 4294967296 + 18446744069414584320) (by omega) (by omega)
  have xa3 := xor_top a ha.1 ha.2
  have xb3 := xor_top b hb.1 hb.2
  have wa := w_i32 a
  have wb := w_i32 b
  have va := w_i64 a
  have vb := w_i64 b
  simp only [ta, tb, oa, ob, w_u32] at h0 h1 h2 h3 h4 h5 h6 h7 h8 h9 h10 h11
  try simp (disch := omega) only [Int.tmod_eq_emod_of_nonneg] at h0 h1 h2 h3 h4 h5 h6 h7 h8 h9 h10 h11
  omega
theorem exc10_12 (i : Nat → Int) (hh : Holds i [((.eq (.conv .u64 (.conv .i32 (.var 1 0 18446744073709551615))) (.ar .or .u64 (.ar .rem .u64 (.var 1 0 18446744073709551615) (.lit 4294967296)) (.lit 18446744069414584320))), false), ((.eq (.conv .u32 (.var 1 0 18446744073709551615)) (.ar .rem .u64 (.ar .rem .u64 (.var 2 0 18446744073709551615) (.lit 4294967296)) (.lit 4294967296))), true), ((.lt (.ar .rem .u64 (.var 2 0 18446744073709551615) (.lit 4294967296)) (.lit 2147483648)), true), ((.lt (.ar .rem .u64 (.var 1 0 18446744073709551615) (.lit 4294967296)) (.lit 2147483648)), false), ((.lt (.conv .u32 (.var 2 0 18446744073709551615)) (.conv .u32 (.var 1 0 18446744073709551615))), false), ((.lt (.var 0 0 255) (.lit 77)), true), ((.lt (.var 0 0 255) (.lit 76)), false), ((.lt (.var 0 0 255) (.lit 75)), false), ((.lt (.var 0 0 255) (.lit 72)), false), ((.lt (.var 0 0 255) (.lit 78)), true), ((.lt (.var 0 0 255) (.lit 89)), true), ((.lt (.var 0 0 255) (.lit 67)), false)]) : False := by
  have h0 := hh _ _ (.head _)
  have h1 := hh _ _ (.tail _ (.head _))
  have h2 := hh _ _ (.tail _ (.tail _ (.head _)))
  have h3 := hh _ _ (.tail _ (.tail _ (.tail _ (.head _))))
  have h4 := hh _ _ (.tail _ (.tail _ (.tail _ (.tail _ (.head _)))))
  have h5 := hh _ _ (.tail _ (.tail _ (.tail _ (.tail _ (.tail _ (.head _))))))
  have h6 := hh _ _ (.tail _ (.tail _ (.tail _ (.tail _ (.tail _ (.tail _ (.head _)))))))
  have h7 := hh _ _ (.tail _ (.tail _ (.tail _ (.tail _ (.tail _ (.tail _ (.tail _ (.head _))))))))
  have h8 := hh _ _ (.tail _ (.tail _ (.tail _ (.tail _ (.tail _ (.tail _ (.tail _ (.tail _ (.head _)))))))))
  have h9 := hh _ _ (.tail _ (.tail _ (.tail _ (.tail _ (.tail _ (.tail _ (.tail _ (.tail _ (.tail _ (.head _))))))))))
  have h10 := hh _ _ (.tail _ (.tail _ (.tail _ (.tail _ (.tail _ (.tail _ (.tail _ (.tail _ (.tail _ (.tail _ (.head _)))))))))))
  have h11 := hh _ _ (.tail _ (.tail _ (.tail _ (.tail _ (.tail _ (.tail _ (.tail _ (.tail _ (.tail _ (.tail _ (.tail _ (.head _))))))))))))
  clear hh
  simp only [N.den, aRem, true_iff, Bool.false_eq_true, false_iff, bI_ne, ieq_iff, ilt_iff] at h0 h1 h2 h3 h4 h5 h6 h7 h8 h9 h10 h11
  generalize hA0 : max 0 (min 18446744073709551615 (i 1)) = a at *
  generalize hB0 : max 0 (min 18446744073709551615 (i 2)) = b at *
  generalize max 0 (min 255 (i 0)) = c at *
  have ha : 0 ≤ a ∧ a ≤ 18446744073709551615 := by omega
  have hb : 0 ≤ b ∧ b ≤ 18446744073709551615 := by omega
  clear hA0 hB0
  have ta : a.tmod 4294967296 = a % 4294967296 := Int.tmod_eq_emod_of_nonneg ha.1
  have tb : b.tmod 4294967296 = b % 4294967296 := Int.tmod_eq_emod_of_nonneg hb.1
  have oa := or_hi (a % 4294967296) (by omega) (by omega)
  have ob := or_hi (b % 4294967296) (by omega) (by omega)
  have xa := xor_top (a % 4294967296) (by omega) (by omega)
  have xb := xor_top (b % 4294967296) (by omega) (by omega)
  have xa2 := xor_top (a % 4294967296 + 18446744069414584320) (by omega) (by omega)
  have xb2 := xor_top (b % 4294967296 + 18446744069414584320) (by omega) (by omega)
  have xa3 := xor_top a ha.1 ha.2
  have xb3 := xor_top b hb.1 hb.2
  have wa := w_i32 a
  have wb := w_i32 b
  have va := w_i64 a
  have vb := w_i64 b
  simp only [ta, tb, oa, w_u64, w_u32] at h0 h1 h2 h3 h4 h5 h6 h7 h8 h9 h10 h11
  try simp (disch := omega) only [Int.tmod_eq_emod_of_nonneg] at h0 h1 h2 h3 h4 h5 h6 h7 h8 h9 h10 h11
  omega
theorem exc10_13 (i : Nat → Int) (hh : Holds i [((.eq (.conv .u32 (.var 1 0 18446744073709551615)) (.ar .rem .u64 (.ar .rem .u64 (.var 2 0 18446744073709551615) (.lit 4294967296)) (.lit 4294967296))), false), ((.lt (.ar .rem .u64 (.var 2 0 18446744073709551615) (.lit 4294967296)) (.lit 2147483648)), true), ((.lt (.ar .rem .u64 (.var 1 0 18446744073709551615) (.lit 4294967296)) (.lit 2147483648)), false), ((.lt (.conv .u32 (.var 2 0 18446744073709551615)) (.conv .u32 (.var 1 0 18446744073709551615))), false), ((.lt (.var 0 0 255) (.lit 77)), true), ((.lt (.var 0 0 255) (.lit 76)), false), ((.lt (.var 0 0 255) (.lit 75)), false), ((.lt (.var 0 0 255) (.lit 72)), false), ((.lt (.var 0 0 255) (.lit 78)), true), ((.lt (.var 0 0 255) (.lit 89)), true), ((.lt (.var 0 0 255) (.lit 67)), false)]) : False := by
  have h0 := hh _ _ (.head _)
  have h1 := hh _ _ (.tail _ (.head _))
  have h2 := hh _ _ (.tail _ (.tail _ (.head _)))
  have h3 := hh _ _ (.tail _ (.tail _ (.tail _ (.head _))))
  have h4 := hh _ _ (.tail _ (.tail _ (.tail _ (.tail _ (.head _)))))
  have h5 := hh _ _ (.tail _ (.tail _ (.tail _ (.tail _ (.tail _ (.head _))))))
  have h6 := hh _ _ (.tail _ (.tail _ (.tail _ (.tail _ (.tail _ (.tail _ (.head _)))))))
  have h7 := hh _ _ (.tail _ (.tail _ (.tail _ (.tail _ (.tail _ (.tail _ (.tail _ (.head _))))))))
  have h8 := hh _ _ (.tail _ (.tail _ (.tail _ (.tail _ (.tail _ (.tail _ (.tail _ (.tail _ (.head _)))))))))
  have h9 := hh _ _ (.tail _ (.tail _ (.tail _ (.tail _ (.tail _ (.tail _ (.tail _ (.tail _ (.tail _ (.head _))))))))))
  have h10 := hh _ _ (.tail _ (.tail _ (.tail _ (.tail _ (.tail _ (.tail _ (.tail _ (.tail _ (.tail _ (.tail _ (.head _)))))))))))
  clear hh
  simp only [N.den, aRem, true_iff, Bool.false_eq_true, false_iff, bI_ne, ieq_iff, ilt_iff] at h0 h1 h2 h3 h4 h5 h6 h7 h8 h9 h10
  generalize hA0 : max 0 (min 18446744073709551615 (i 1)) = a at *
  generalize hB0 : max 0 (min 18446744073709551615 (i 2)) = b at *
  generalize max 0 (min 255 (i 0)) = c at *
  have ha : 0 ≤ a ∧ a ≤ 18446744073709551615 := by omega
  have hb : 0 ≤ b ∧ b ≤ 18446744073709551615 := by omega
  clear hA0 hB0
  have ta : a.tmod 4294967296 = a % 4294967296 := Int.tmod_eq_emod_of_nonneg ha.1
  have tb : b.tmod 4294967296 = b % 4294967296 := Int.tmod_eq_emod_of_nonneg hb.1
  have oa := or_hi (a % 4294967296) (by omega) (by omega)
  have ob := or_hi (b % 4294967296) (by omega) (by omega)
  have xa := xor_top (a % 4294967296) (by omega) (by omega)
  have xb := xor_top (b % 4294967296) (by omega) (by omega)
  have xa2 := xor_top (a % 4294967296 + 18446744069414584320) (by omega) (by omega)
  have xb2 := xor_top (b % 4294967296 + 18446744069414584320) (by omega) (by omega)
  have xa3 := xor_top a ha.1 ha.2
  have xb3 := xor_top b hb.1 hb.2
  have wa := w_i32 a
  have wb := w_i32 b
  have va := w_i64 a
  have vb := w_i64 b
  simp only [ta, tb, w_u32] at h0 h1 h2 h3 h4 h5 h6 h7 h8 h9 h10
  try simp (disch := omega) only [Int.tmod_eq_emod_of_nonneg] at h0 h1 h2 h3 h4 h5 h6 h7 h8 h9 h10
  omega
theorem exc10_14 (i : Nat → Int) (hh : Holds i [((.eq (.conv .u64 (.conv .i32 (.var 1 0 18446744073709551615))) (.ar .rem .u64 (.var 1 0 18446744073709551615) (.lit 4294967296))), false), ((.lt (.ar .rem .u64 (.var 2 0 18446744073709551615) (.lit 4294967296)) (.lit 2147483648)), false), ((.lt (.ar .rem .u64 (.var 1 0 18446744073709551615) (.lit 4294967296)) (.lit 2147483648)), true), ((.lt (.conv .u32 (.var 2 0 18446744073709551615)) (.conv .u32 (.var 1 0 18446744073709551615))), false), ((.lt (.var 0 0 255) (.lit 77)), true), ((.lt (.var 0 0 255) (.lit 76)), false), ((.lt (.var 0 0 255) (.lit 75)), false), ((.lt (.var 0 0 255) (.lit 72)), false), ((.lt (.var 0 0 255) (.lit 78)), true), ((.lt (.var 0 0 255) (.lit 89)), true), ((.lt (.var 0 0 255) (.lit 67)), false)]) : False := by
  have h0 := hh _ _ (.head _)
  have h1 := hh _ _ (.tail _ (.head _))
  have h2 := hh _ _ (.tail _ (.tail _ (.head _)))
  have h3 := hh _ _ (.tail _ (.tail _ (.tail _ (.head _))))
  have h4 := hh _ _ (.tail _ (.tail _ (.tail _ (.tail _ (.head _)))))
  have h5 := hh _ _ (.tail _ (.tail _ (.tail _ (.tail _ (.tail _ (.head _))))))
  have h6 := hh _ _ (.tail _ (.tail _ (.tail _ (.tail _ (.tail _ (.tail _ (.head _)))))))
  have h7 := hh _ _ (.tail _ (.tail _ (.tail _ (.tail _ (.tail _ (.tail _ (.tail _ (.head _))))))))
  have h8 := hh _ _ (.tail _ (.tail _ (.tail _ (.tail _ (.tail _ (.tail _ (.tail _ (.tail _ (.head _)))))))))
  have h9 := hh _ _ (.tail _ (.tail _ (.tail _ (.tail _ (.tail _ (.tail _ (.tail _ (.tail _ (.tail _ (.head _))))))))))
  have h10 := hh _ _ (.tail _ (.tail _ (.tail _ (.tail _ (.tail _ (.tail _ (.tail _ (.tail _ (.tail _ (.tail _ (.head _)))))))))))
  clear hh
  simp only [N.den, aRem, true_iff, Bool.false_eq_true, false_iff, bI_ne, ieq_iff, ilt_iff] at h0 h1 h2 h3 h4 h5 h6 h7 h8 h9 h10
  generalize hA0 : max 0 (min 18446744073709551615 (i 1)) = a at *
  generalize hB0 : max 0 (min 18446744073709551615 (i 2)) = b at *
  generalize max 0 (min 255 (i 0)) = c at *
  have ha : 0 ≤ a ∧ a ≤ 18446744073709551615 := by omega
  have hb : 0 ≤ b ∧ b ≤ 18446744073709551615 := by omega
  clear hA0 hB0
  have ta : a.tmod 4294967296 = a % 4294967296 := Int.tmod_eq_emod_of_nonneg ha.1
  have tb : b.tmod 4294967296 = b % 4294967296 := Int.tmod_eq_emod_of_nonneg hb.1
  have oa := or_hi (a % 4294967296) (by omega) (by omega)
  have ob := or_hi (b % 4294967296) (by omega) (by omega)
  have xa := xor_top (a % 4294967296) (by omega) (by omega)
  have xb := xor_top (b % 4294967296) (by omega) (by omega)
  have xa2 := xor_top (a % 4294967296 + 18446744069414584320) (by omega) (by omega)
  have xb2 := xor_top (b % 4294967296 + 18446744069414584320) (by omega) (by omega)
  have xa3 := xor_top a ha.1 ha.2
  have xb3 := xor_top b hb.1 hb.2
  have wa := w_i32 a
  have wb := w_i32 b
  have va := w_i64 a
  have vb := w_i64 b
  simp only [ta, tb, w_u64, w_u32] at h0 h1 h2 h3 h4 h5 h6 h7 h8 h9 h10
  try simp (disch := omega) only [Int.tmod_eq_emod_of_nonneg] at h0 h1 h2 h3 h4 h5 h6 h7 h8 h9 h10
  omega
theorem exc10_15 (i : Nat → Int) (hh : Holds i [((.eq (.conv .u64 (.conv .i32 (.var 1 0 18446744073709551615))) (.ar .rem .u64 (.var 1 0 18446744073709551615) (.lit 4294967296))), false), ((.lt (.ar .rem .u64 (.var 1 0 18446744073709551615) (.lit 4294967296)) (.ar .rem .u64 (.var 2 0 18446744073709551615) (.lit 4294967296))), true), ((.lt (.ar .rem .u64 (.var 2 0 18446744073709551615) (.lit 4294967296)) (.lit 2147483648)), true), ((.lt (.ar .rem .u64 (.var 1 0 18446744073709551615) (.lit 4294967296)) (.lit 2147483648)), true), ((.lt (.conv .u32 (.var 2 0 18446744073709551615)) (.conv .u32 (.var 1 0 18446744073709551615))), false), ((.lt (.var 0 0 255) (.lit 77)), true), ((.lt (.var 0 0 255) (.lit 76)), false), ((.lt (.var 0 0 255) (.lit 75)), false), ((.lt (.var 0 0 255) (.lit 72)), false), ((.lt (.var 0 0 255) (.lit 78)), true), ((.lt (.var 0 0 255) (.lit 89)), true), ((.lt (.var 0 0 255) (.lit 67)), false)]) : False := by
  have h0 := hh _ _ (.head _)
  have h1 := hh _ _ (.tail _ (.head _))
  have h2 := hh _ _ (.tail _ (.tail _ (.head _)))
  have h3 := hh _ _ (.tail _ (.tail _ (.tail _ (.head _))))
  have h4 := hh _ _ (.tail _ (.tail _ (.tail _ (.tail _ (.head _)))))
  have h5 := hh _ _ (.tail _ (.tail _ (.tail _ (.tail _ (.tail _ (.head _))))))
  have h6 := hh _ _ (.tail _ (.tail _ (.tail _ (.tail _ (.tail _ (.tail _ (.head _)))))))
  have h7 := hh _ _ (.tail _ (.tail _ (.tail _ (.tail _ (.tail _ (.tail _ (.tail _ (.head _))))))))
  have h8 := hh _ _ (.tail _ (.tail _ (.tail _ (.tail _ (.tail _ (.tail _ (.tail _ (.tail _ (.head _)))))))))
  have h9 := hh _ _ (.tail _ (.tail _ (.tail _ (.tail _ (.tail _ (.tail _ (.tail _ (.tail _ (.tail _ (.head _))))))))))
  have h10 := hh _ _ (.tail _ (.tail _ (.tail _ (.tail _ (.tail _ (.tail _ (.tail _ (.tail _ (.tail _ (.tail _ (.head _)))))))))))
  have h11 := hh _ _ (.tail _ (.tail _ (.tail _ (.tail _ (.tail _ (.tail _ (.tail _ (.tail _ (.tail _ (.tail _ (.tail _ (.head _))))))))))))
  clear hh
  simp only [N.den, aRem, true_iff, Bool.false_eq_true, false_iff, bI_ne, ieq_iff, ilt_iff] at h0 h1 h2 h3 h4 h5 h6 h7 h8 h9 h10 h11
  generalize hA0 : max 0 (min 18446744073709551615 (i 1)) = a at *
  generalize hB0 : max 0 (min 18446744073709551615 (i 2)) = b at *
  generalize max 0 (min 255 (i 0)) = c at *
  have ha : 0 ≤ a ∧ a ≤ 18446744073709551615 := by omega
  have hb : 0 ≤ b ∧ b ≤ 18446744073709551615 := by omega
  clear hA0 hB0
  have ta : a.tmod 4294967296 = a % 4294967296 := Int.tmod_eq_emod_of_nonneg ha.1
  have tb : b.tmod 4294967296 = b % 4294967296 := Int.tmod_eq_emod_of_nonneg hb.1
  have oa := or_hi (a % 4294967296) (by omega) (by omega)
  have ob := or_hi (b % 4294967296) (by omega) (by omega)
  have xa := xor_top (a % 4294967296) (by omega) (by omega)
  have xb := xor_top (b % 4294967296) (by omega) (by omega)
  have xa2 := xor_top (a % 4294967296 + 18446744069414584320) (by omega) (by omega)
  have xb2 := xor_top (b % 4294967296 + 18446744069414584320) (by omega) (by omega)
  have xa3 := xor_top a ha.1 ha.2
  have xb3 := xor_top b hb.1 hb.2
  have wa := w_i32 a
  have wb := w_i32 b
  have va := w_i64 a
  have vb := w_i64 b
  simp only [ta, tb, w_u64, w_u32] at h0 h1 h2 h3 h4 h5 h6 h7 h8 h9 h10 h11
  try simp (disch := omega) only [Int.tmod_eq_emod_of_nonneg] at h0 h1 h2 h3 h4 h5 h6 h7 h8 h9 h10 h11
  omega
theorem exc10_16 (i : Nat → Int) (hh : Holds i [((.eq (.conv .u64 (.conv .i32 (.var 1 0 18446744073709551615))) (.ar .rem .u64 (.var 1 0 18446744073709551615) (.lit 4294967296))), false), ((.eq (.conv .u32 (.var 1 0 18446744073709551615)) (.ar .rem .u64 (.ar .rem .u64 (.var 2 0 18446744073709551615) (.lit 4294967296)) (.lit 4294967296))), true), ((.lt (.ar .rem .u64 (.var 1 0 18446744073709551615) (.lit 4294967296)) (.ar .rem .u64 (.var 2 0 18446744073709551615) (.lit 4294967296))), false), ((.lt (.ar .rem .u64 (.var 2 0 18446744073709551615) (.lit 4294967296)) (.lit 2147483648)), true), ((.lt (.ar .rem .u64 (.var 1 0 18446744073709551615) (.lit 4294967296)) (.lit 2147483648)), true), ((.lt (.conv .u32 (.var 2 0 18446744073709551615)) (.conv .u32 (.var 1 0 18446744073709551615))), false), ((.lt (.var 0 0 255) (.lit 77)), true), ((.lt (.var 0 0 255) (.lit 76)), false), ((.lt (.var 0 0 255) (.lit 75)), false), ((.lt (.var 0 0 255) (.lit 72)), false), ((.lt (.var 0 0 255) (.lit 78)), true), ((.lt (.var 0 0 255) (.lit 89)), true), ((.lt (.var 0 0 255) (.lit 67)), false)]) : False := by
  have h0 := hh _ _ (.head _)
  have h1 := hh _ _ (.tail _ (.head _))
  have h2 := hh _ _ (.tail _ (.tail _ (.head _)))
  have h3 := hh _ _ (.tail _ (.tail _ (.tail _ (.head _))))
  have h4 := hh _ _ (.tail _ (.tail _ (.tail _ (.tail _ (.head _)))))
  have h5 := hh _ _ (.tail _ (.tail _ (.tail _ (.tail _ (.tail _ (.head _))))))
  have h6 := hh _ _ (.tail _ (.tail _ (.tail _ (.tail _ (.tail _ (.tail _ (.head _)))))))
  have h7 := hh _ _ (.tail _ (.tail _ (.tail _ (.tail _ (.tail _ (.tail _ (.tail _ (.head _))))))))
  have h8 := hh _ _ (.tail _ (.tail _ (.tail _ (.tail _ (.tail _ (.tail _ (.tail _ (.tail _ (.head _)))))))))
  have h9 := hh _ _ (.tail _ (.tail _ (.tail _ (.tail _ (.tail _ (.tail _ (.tail _ (.tail _ (.tail _ (.head _))))))))))
  have h10 := hh _ _ (.tail _ (.tail _ (.tail _ (.tail _ (.tail _ (.tail _ (.tail _ (.tail _ (.tail _ (.tail _ (.head _)))))))))))
  have h11 := hh _ _ (.tail _ (.tail _ (.tail _ (.tail _ (.tail _ (.tail _ (.tail _ (.tail _ (.tail _ (.tail _ (.tail _ (.head _))))))))))))
  have h12 := hh _ _ (.tail _ (.tail _ (.tail _ (.tail _ (.tail _ (.tail _ (.tail _ (.tail _ (.tail _ (.tail _ (.tail _ (.tail _ (.head _)))))))))))))
  clear hh
  simp only [N.den, aRem, true_iff, Bool.false_eq_true, false_iff, bI_ne, ieq_iff, ilt_iff] at h0 h1 h2 h3 h4 h5 h6 h7 h8 h9 h10 h11 h12
  generalize hA0 : max 0 (min 18446744073709551615 (i 1)) = a at *
  generalize hB0 : max 0 (min 18446744073709551615 (i 2)) = b at *
  generalize max 0 (min 255 (i 0)) = c at *
  have ha : 0 ≤ a ∧ a ≤ 18446744073709551615 := by omega
  have hb : 0 ≤ b ∧ b ≤ 18446744073709551615 := by omega
  clear hA0 hB0
  have ta : a.tmod 4294967296 = a % 4294967296 := Int.tmod_eq_emod_of_nonneg ha.1
  have tb : b.tmod 4294967296 = b % 4294967296 := Int.tmod_eq_emod_of_nonneg hb.1
  have oa := or_hi (a % 4294967296) (by omega) (by omega)
  have ob := or_hi (b % 4294967296) (by omega) (by omega)
  have xa := xor_top (a % 4294967296) (by omega) (by omega)
  have xb := xor_top (b % 4294967296) (by omega) (by omega)
  have xa2 := xor_top (a % 4294967296 + 18446744069414584320) (by omega) (by omega)
  have xb2 := xor_top (b % 4294967296 + 18446744069414584320) (by omega) (by omega)
  have xa3 := xor_top a ha.1 ha.2
  have xb3 := xor_top b hb.1 hb.2
  have wa := w_i32 a
  have wb := w_i32 b
  have va := w_i64 a
  have vb := w_i64 b
  simp only [ta, tb, w_u64, w_u32] at h0 h1 h2 h3 h4 h5 h6 h7 h8 h9 h10 h11 h12
  try simp (disch := omega) only [Int.tmod_eq_emod_of_nonneg] at h0 h1 h2 h3 h4 h5 h6 h7 h8 h9 h10 h11 h12
  omega
theorem exc10_17 (i : Nat → Int) (hh : Holds i [((.eq (.conv .u32 (.var 1 0 18446744073709551615)) (.ar .rem .u64 (.ar .rem .u64 (.var 2 0 18446744073709551615) (.lit 4294967296)) (.lit 4294967296))), false), ((.lt (.ar .rem .u64 (.var 1 0 18446744073709551615) (.lit 4294967296)) (.ar .rem .u64 (.var 2 0 18446744073709551615) (.lit 4294967296))), false), ((.lt (.ar .rem .u64 (.var 2 0 18446744073709551615) (.lit 4294967296)) (.lit 2147483648)), true), ((.lt (.ar .rem .u64 (.var 1 0 18446744073709551615) (.lit 4294967296)) (.lit 2147483648)), true), ((.lt (.conv .u32 (.var 2 0 18446744073709551615)) (.conv .u32 (.var 1 0 18446744073709551615))), false), ((.lt (.var 0 0 255) (.lit 77)), true), ((.lt (.var 0 0 255) (.lit 76)), false), ((.lt (.var 0 0 255) (.lit 75)), false), ((.lt (.var 0 0 255) (.lit 72)), false), ((.lt (.var 0 0 255) (.lit 78)), true), ((.lt (.var 0 0 255) (.lit 89)), true), ((.lt (.var 0 0 255) (.lit 67)), false)]) : False := by
  have h0 := hh _ _ (.head _)
  have h1 := hh _ _ (.tail _ (.head _))
  have h2 := hh _ _ (.tail _ (.tail _ (.head _)))
  have h3 := hh _ _ (.tail _ (.tail _ (.tail _ (.head _))))
  have h4 := hh _ _ (.tail _ (.tail _ (.tail _ (.tail _ (.head _)))))
  have h5 := hh _ _ (.tail _ (.tail _ (.tail _ (.tail _ (.tail _ (.head _))))))
  have h6 := hh _ _ (.tail _ (.tail _ (.tail _ (.tail _ (.tail _ (.tail _ (.head _)))))))
  have h7 := hh _ _ (.tail _ (.tail _ (.tail _ (.tail _ (.tail _ (.tail _ (.tail _ (.head _))))))))
  have h8 := hh _ _ (.tail _ (.tail _ (.tail _ (.tail _ (.tail _ (.tail _ (.tail _ (.tail _ (.head _)))))))))
  have h9 := hh _ _ (.tail _ (.tail _ (.tail _ (.tail _ (.tail _ (.tail _ (.tail _ (.tail _ (.tail _ (.head _))))))))))
  have h10 := hh _ _ (.tail _ (.tail _ (.tail _ (.tail _ (.tail _ (.tail _ (.tail _ (.tail _ (.tail _ (.tail _ (.head _)))))))))))
  have h11 := hh _ _ (.tail _ (.tail _ (.tail _ (.tail _ (.tail _ (.tail _ (.tail _ (.tail _ (.tail _ (.tail _ (.tail _ (.head _))))))))))))
  clear hh
  simp only [N.den, aRem, true_iff, Bool.false_eq_true, false_iff, bI_ne, ieq_iff, ilt_iff] at h0 h1 h2 h3 h4 h5 h6 h7 h8 h9 h10 h11
  generalize hA0 : max 0 (min 18446744073709551615 (i 1)) = a at *
  generalize hB0 : max 0 (min 18446744073709551615 (i 2)) = b at *
  generalize max 0 (min 255 (i 0)) = c at *
  have ha : 0 ≤ a ∧ a ≤ 18446744073709551615 := by omega
  have hb : 0 ≤ b ∧ b ≤ 18446744073709551615 := by omega
  clear hA0 hB0
  have ta : a.tmod 4294967296 = a % 4294967296 := Int.tmod_eq_emod_of_nonneg ha.1
  have tb : b.tmod 4294967296 = b % 4294967296 := Int.tmod_eq_emod_of_nonneg hb.1
  have oa := or_hi (a % 4294967296) (by omega) (by omega)
  have ob := or_hi (b % 4294967296) (by omega) (by omega)
  have xa := xor_top (a % 4294967296) (by omega) (by omega)
  have xb := xor_top (b % 4294967296) (by omega) (by omega)
  have xa2 := xor_top (a % 4294967296 + 18446744069414584320) (by omega) (by omega)
  have xb2 := xor_top (b % 4294967296 + 18446744069414584320) (by omega) (by omega)
  have xa3 := xor_top a ha.1 ha.2
  have xb3 := xor_top b hb.1 hb.2
  have wa := w_i32 a
  have wb := w_i32 b
  have va := w_i64 a
  have vb := w_i64 b
  simp only [ta, tb, w_u32] at h0 h1 h2 h3 h4 h5 h6 h7 h8 h9 h10 h11
  try simp (disch := omega) only [Int.tmod_eq_emod_of_nonneg] at h0 h1 h2 h3 h4 h5 h6 h7 h8 h9 h10 h11
  omega
theorem exc10_no : ∀ q ∈ exc10, ∀ i, ¬ Holds i q :=
  List.forall_mem_cons.2 ⟨exc10_0, List.forall_mem_cons.2 ⟨exc10_1, List.forall_mem_cons.2 ⟨exc10_2, List.forall_mem_cons.2 ⟨exc10_3, List.forall_mem_cons.2 ⟨exc10_4, List.forall_mem_cons.2 ⟨exc10_5, List.forall_mem_cons.2 ⟨exc10_6, List.forall_mem_cons.2 ⟨exc10_7, List.forall_mem_cons.2 ⟨exc10_8, List.forall_mem_cons.2 ⟨exc10_9, List.forall_mem_cons.2 ⟨exc10_10, List.forall_mem_cons.2 ⟨exc10_11, List.forall_mem_cons.2 ⟨exc10_12, List.forall_mem_cons.2 ⟨exc10_13, List.forall_mem_cons.2 ⟨exc10_14, List.forall_mem_cons.2 ⟨exc10_15, List.forall_mem_cons.2 ⟨exc10_16, List.forall_mem_cons.2 ⟨exc10_17, (fun p h => by cases h)⟩⟩⟩⟩⟩⟩⟩⟩⟩⟩⟩⟩⟩⟩⟩⟩⟩⟩
theorem exc11_0 (i : Nat → Int) (hh : Holds i [((.eq (.conv .u64 (.conv .i32 (.var 1 0 18446744073709551615))) (.ar .or .u64 (.ar .rem .u64 (.var 1 0 18446744073709551615) (.lit 4294967296)) (.lit 18446744069414584320))), false), ((.eq (.conv .u32 (.var 2 0 18446744073709551615)) (.ar .rem .u64 (.ar .or .u64 (.ar .rem .u64 (.var 1 0 18446744073709551615) (.lit 4294967296)) (.lit 18446744069414584320)) (.lit 4294967296))), true), ((.lt (.ar .or .u64 (.ar .rem .u64 (.var 2 0 18446744073709551615) (.lit 4294967296)) (.lit 18446744069414584320)) (.ar .or .u64 (.ar .rem .u64 (.var 1 0 18446744073709551615) (.lit 4294967296)) (.lit 18446744069414584320))), true), ((.lt (.ar .rem .u64 (.var 2 0 18446744073709551615) (.lit 4294967296)) (.lit 2147483648)), false), ((.lt (.ar .rem .u64 (.var 1 0 18446744073709551615) (.lit 4294967296)) (.lit 2147483648)), false), ((.lt (.conv .u32 (.var 1 0 18446744073709551615)) (.conv .u32 (.var 2 0 18446744073709551615))), true), ((.lt (.var 0 0 255) (.lit 77)), false), ((.lt (.var 0 0 255) (.lit 76)), false), ((.lt (.var 0 0 255) (.lit 75)), false), ((.lt (.var 0 0 255) (.lit 72)), false), ((.lt (.var 0 0 255) (.lit 78)), true), ((.lt (.var 0 0 255) (.lit 89)), true), ((.lt (.var 0 0 255) (.lit 67)), false)]) : False := by
  have h0 := hh _ _ (.head _)
  have h1 := hh _ _ (.tail _ (.head _))
  have h2 := hh _ _ (.tail _ (.tail _ (.head _)))
  have h3 := hh _ _ (.tail _ (.tail _ (.tail _ (.head _))))
  have h4 := hh _ _ (.tail _ (.tail _ (.tail _ (.tail _ (.head _)))))
  have h5 := hh _ _ (.tail _ (.tail _ (.tail _ (.tail _ (.tail _ (.head _))))))
  have h6 := hh _ _ (.tail _ (.tail _ (.tail _ (.tail _ (.tail _ (.tail _ (.head _)))))))
  have h7 := hh _ _ (.tail _ (.tail _ (.tail _ (.tail _ (.tail _ (.tail _ (.tail _ (.head _))))))))
  have h8 := hh _ _ (.tail _ (.tail _ (.tail _ (.tail _ (.tail _ (.tail _ (.tail _ (.tail _ (.head _)))))))))
  have h9 := hh _ _ (.tail _ (.tail _ (.tail _ (.tail _ (.tail _ (.tail _ (.tail _ (.tail _ (.tail _ (.head _))))))))))
  have h10 := hh _ _ (.tail _ (.tail _ (.tail _ (.tail _ (.tail _ (.tail _ (.tail _ (.tail _ (.tail _ (.tail _ (.head _)))))))))))
  have h11 := hh _ _ (.tail _ (.tail _ (.tail _ (.tail _ (.tail _ (.tail _ (.tail _ (.tail _ (.tail _ (.tail _ (.tail _ (.head _))))))))))))
  have h12 := hh _ _ (.tail _ (.tail _ (.tail _ (.tail _ (.tail _ (.tail _ (.tail _ (.tail _ (.tail _ (.tail _ (.tail _ (.tail _ (.head _)))))))))))))
  clear hh
  simp only [N.den, aRem, true_iff, Bool.false_eq_true, false_iff, bI_ne, ieq_iff, ilt_iff] at h0 h1 h2 h3 h4 h5 h6 h7 h8 h9 h10 h11 h12
  generalize hA0 : max 0 (min 18446744073709551615 (i 1)) = a at *
  generalize hB0 : max 0 (min 18446744073709551615 (i 2)) = b at *
  generalize max 0 (min 255 (i 0)) = c at *
  have ha : 0 ≤ a ∧ a ≤ 18446744073709551615 := by omega
  have hb : 0 ≤ b ∧ b ≤ 18446744073709551615 := by omega
  clear hA0 hB0
  have ta : a.tmod 4294967296 = a % 4294967296 := Int.tmod_eq_emod_of_nonneg ha.1
  have tb : b.tmod 4294967296 = b % 4294967296 := Int.tmod_eq_emod_of_nonneg hb.1
  have oa := or_hi (a % 4294967296) (by omega) (by omega)
  have ob := or_hi (b % 4294967296) (by omega) (by omega)
  have xa := xor_top (a % 4294967296) (by omega) (by omega)
  have xb := xor_top (b % 4294967296) (by omega) (by omega)
  have xa2 := xor_top (a % 4294967296 + 18446744069414584320) (by omega) (by omega)
  have xb2 := xor_top (b % 4294967296 + 18446744069414584320) (by omega) (by omega)
  have xa3 := xor_top a ha.1 ha.2
  have xb3 := xor_top b hb.1 hb.2
  have wa := w_i32 a
  have wb := w_i32 b
  have va := w_i64 a
  have vb := w_i64 b
  simp only [ta, tb, oa, ob, w_u64, w_u32] at h0 h1 h2 h3 h4 h5 h6 h7 h8 h9 h10 h11 h12
  try simp (disch := omega) only [Int.tmod_eq_emod_of_nonneg] at h0 h1 h2 h3 h4 h5 h6 h7 h8 h9 h10 h11 h12
  omega
theorem exc11_1 (i : Nat → Int) (hh : Holds i [((.eq (.conv .u32 (.var 2 0 18446744073709551615)) (.ar .rem .u64 (.ar .or .u64 (.ar .rem .u64 (.var 1 0 18446744073709551615) (.lit 4294967296)) (.lit 18446744069414584320)) (.lit 4294967296))), false), ((.lt (.ar .or .u64 (.ar .rem .u64 (.var 2 0 18446744073709551615) (.lit 4294967296)) (.lit 18446744069414584320)) (.ar .or .u64 (.ar .rem .u64 (.var 1 0 18446744073709551615) (.lit 4294967296)) (.lit 18446744069414584320))), true), ((.lt (.ar .rem .u64 (.var 2 0 18446744073709551615) (.lit 4294967296)) (.lit 2147483648)), false), ((.lt (.ar .rem .u64 (.var 1 0 18446744073709551615) (.lit 4294967296)) (.lit 2147483648)), false), ((.lt (.conv .u32 (.var 1 0 18446744073709551615)) (.conv .u32 (.var 2 0 18446744073709551615))), true), ((.lt (.var 0 0 255) (.lit 77)), false), ((.lt (.var 0 0 255) (.lit 76)), false), ((.lt (.var 0 0 255) (.lit 75)), false), ((.lt (.var 0 0 255) (.lit 72)), false), ((.lt (.var 0 0 255) (.lit 78)), true), ((.lt (.var 0 0 255) (.lit 89)), true), ((.lt (.var 0 0 255) (.lit 67)), false)]) : False := by
  have h0 := hh _ _ (.head _)
  have h1 := hh _ _ (.tail _ (.head _))
  have h2 := hh _ _ (.tail _ (.tail _ (.head _)))
  have h3 := hh _ _ (.tail _ (.tail _ (.tail _ (.head _))))
  have h4 := hh _ _ (.tail _ (.tail _ (.tail _ (.tail _ (.head _)))))
  have h5 := hh _ _ (.tail _ (.tail _ (.tail _ (.tail _ (.tail _ (.head _))))))
  have h6 := hh _ _ (.tail _ (.tail _ (.tail _ (.tail _ (.tail _ (.tail _ (.head _)))))))
  have h7 := hh _ _ (.tail _ (.tail _ (.tail _ (.tail _ (.tail _ (.tail _ (.tail _ (.head _))))))))
  have h8 := hh _ _ (.tail _ (.tail _ (.tail _ (.tail _ (.tail _ (.tail _ (.tail _ (.tail _ (.head _)))))))))
  have h9 := hh _ _ (.tail _ (.tail _ (.tail _ (.tail _ (.tail _ (.tail _ (.tail _ (.tail _ (.tail _ (.head _))))))))))
  have h10 := hh _ _ (.tail _ (.tail _ (.tail _ (.tail _ (.tail _ (.tail _ (.tail _ (.tail _ (.tail _ (.tail _ (.head _)))))))))))
  have h11 := hh _ _ (.tail _ (.tail _ (.tail _ (.tail _ (.tail _ (.tail _ (.tail _ (.tail _ (.tail _ (.tail _ (.tail _ (.head _))))))))))))
  clear hh
  simp only [N.den, aRem, true_iff, Bool.false_eq_true, false_iff, bI_ne, ieq_iff, ilt_iff] at h0 h1 h2 h3 h4 h5 h6 h7 h8 h9 h10 h11
  generalize hA0 : max 0 (min 18446744073709551615 (i 1)) = a at *
  generalize hB0 : max 0 (min 18446744073709551615 (i 2)) = b at *
  generalize max 0 (min 255 (i 0)) = c at *
  have ha : 0 ≤ a ∧ a ≤ 18446744073709551615 := by omega
  have hb : 0 ≤ b ∧ b ≤ 18446744073709551615 := by omega
  clear hA0 hB0
  have ta : a.tmod 4294967296 = a % 4294967296 := Int.tmod_eq_emod_of_nonneg ha.1
  have tb : b.tmod 4294967296 = b % 4294967296 := Int.tmod_eq_emod_of_nonneg hb.1
  have oa := or_hi (a % 4294967296) (by omega) (by omega)
  have ob := or_hi (b % 4294967296) (by omega) (by omega)
  have xa := xor_top (a % 4294967296) (by omega) (by omega)
  have xb := xor_top (b % 4294967296) (by omega) (by omega)
  have xa2 := xor_top (a % 4294967296 + 18446744069414584320) (by omega) (by omega)
  have xb2 := xor_top (b % 4294967296 + 18446744069414584320) (by omega) (by omega)
  have xa3 := xor_top a ha.1 ha.2
  have xb3 := xor_top b hb.1 hb.2
  have wa := w_i32 a
  have wb := w_i32 b
  have va := w_i64 a
  have vb := w_i64 b
  simp only [ta, tb, oa, ob, w_u32] at h0 h1 h2 h3 h4 h5 h6 h7 h8 h9 h10 h11
  try simp (disch := omega) only [Int.tmod_eq_emod_of_nonneg] at h0 h1 h2 h3 h4 h5 h6 h7 h8 h9 h10 h11
  omega
theorem exc11_2 (i : Nat → Int) (hh : Holds i [((.eq (.conv .u64 (.conv .i32 (.var 1 0 18446744073709551615))) (.ar .or .u64 (.ar .rem .u64 (.var 1 0 18446744073709551615) (.lit 4294967296)) (.lit 18446744069414584320))), false), ((.lt (.ar .or .u64 (.ar .rem .u64 (.var 2 0 18446744073709551615) (.lit 4294967296)) (.lit 18446744069414584320)) (.ar .or .u64 (.ar .rem .u64 (.var 1 0 18446744073709551615) (.lit 4294967296)) (.lit 18446744069414584320))), false), ((.lt (.ar .rem .u64 (.var 2 0 18446744073709551615) (.lit 4294967296)) (.lit 2147483648)), false), ((.lt (.ar .rem .u64 (.var 1 0 18446744073709551615) (.lit 4294967296)) (.lit 2147483648)), false), ((.lt (.conv .u32 (.var 1 0 18446744073709551615)) (.conv .u32 (.var 2 0 18446744073709551615))), true), ((.lt (.var 0 0 255) (.lit 77)), false), ((.lt (.var 0 0 255) (.lit 76)), false), ((.lt (.var 0 0 255) (.lit 75)), false), ((.lt (.var 0 0 255) (.lit 72)), false), ((.lt (.var 0 0 255) (.lit 78)), true), ((.lt (.var 0 0 255) (.lit 89)), true), ((.lt (.var 0 0 255) (.lit 67)), false)]) : False := by
  have h0 := hh _ _ (.head _)
  have h1 := hh _ _ (.tail _ (.head _))
  have h2 := hh _ _ (.tail _ (.tail _ (.head _)))
  have h3 := hh _ _ (.tail _ (.tail _ (.tail _ (.head _))))
  have h4 := hh _ _ (.tail _ (.tail _ (.tail _ (.tail _ (.head _)))))
  have h5 := hh _ _ (.tail _ (.tail _ (.tail _ (.tail _ (.tail _ (.head _))))))
  have h6 := hh _ _ (.tail _ (.tail _ (.tail _ (.tail _ (.tail _ (.tail _ (.head _)))))))
  have h7 := hh _ _ (.tail _ (.tail _ (.tail _ (.tail _ (.tail _ (.tail _ (.tail _ (.head _))))))))
  have h8 := hh _ _ (.tail _ (.tail _ (.tail _ (.tail _ (.tail _ (.tail _ (.tail _ (.tail _ (.head _)))))))))
  have h9 := hh _ _ (.tail _ (.tail _ (.tail _ (.tail _ (.tail _ (.tail _ (.tail _ (.tail _ (.tail _ (.head _))))))))))
  have h10 := hh _ _ (.tail _ (.tail _ (.tail _ (.tail _ (.tail _ (.tail _ (.tail _ (.tail _ (.tail _ (.tail _ (.head _)))))))))))
  have h11 := hh _ _ (.tail _ (.tail _ (.tail _ (.tail _ (.tail _ (.tail _ (.tail _ (.tail _ (.tail _ (.tail _ (.tail _ (.head _))))))))))))
  clear hh
  simp only [N.den, aRem, true_iff, Bool.false_eq_true, false_iff, bI_ne, ieq_iff, ilt_iff] at h0 h1 h2 h3 h4 h5 h6 h7 h8 h9 h10 h11
  generalize hA0 : max 0 (min 18446744073709551615 (i 1)) = a at *
  generalize hB0 : max 0 (min 18446744073709551615 (i 2)) = b at *
  generalize max 0 (min 255 (i 0)) = c at *
  have ha : 0 ≤ a ∧ a ≤ 18446744073709551615 := by omega
  have hb : 0 ≤ b ∧ b ≤ 18446744073709551615 := by omega
  clear hA0 hB0
  have ta : a.tmod 4294967296 = a % 4294967296 := Int.tmod_eq_emod_of_nonneg ha.1
  have tb : b.tmod 4294967296 = b % 4294967296 := Int.tmod_eq_emod_of_nonneg hb.1
  have oa := or_hi (a % 4294967296) (by omega) (by omega)
  have ob := or_hi (b % 4294967296) (by omega) (by omega)
  have xa := xor_top (a % 4294967296) (by omega) (by omega)
  have xb := xor_top (b % 4294967296) (by omega) (by omega)
  have xa2 := xor_top (a % 4294967296 + 18446744069414584320) (by omega) (by omega)
  have xb2 := xor_top (b % 4294967296 + 18446744069414584320) (by omega) (by omega)
  have xa3 := xor_top a ha.1 ha.2
  have xb3 := xor_top b hb.1 hb.2
  have wa := w_i32 a
  have wb := w_i32 b
  have va := w_i64 a
  have vb := w_i64 b
  simp only [ta, tb, oa, ob, w_u64, w_u32] at h0 h1 h2 h3 h4 h5 h6 h7 h8 h9 h10 h11
  try simp (disch := omega) only [Int.tmod_eq_emod_of_nonneg] at h0 h1 h2 h3 h4 h5 h6 h7 h8 h9 h10 h11
  omega
theorem exc11_3 (i : Nat → Int) (hh : Holds i [((.eq (.conv .u64 (.conv .i32 (.var 1 0 18446744073709551615))) (.ar .or .u64 (.ar .rem .u64 (.var 1 0 18446744073709551615) (.lit 4294967296)) (.lit 18446744069414584320))), false), ((.eq (.conv .u32 (.var 2 0 18446744073709551615)) (.ar .rem .u64 (.ar .or .u64 (.ar .rem .u64 (.var 1 0 18446744073709551615) (.lit 4294967296)) (.lit 18446744069414584320)) (.lit 4294967296))), true), ((.lt (.ar .rem .u64 (.var 2 0 18446744073709551615) (.lit 4294967296)) (.lit 2147483648)), true), ((.lt (.ar .rem .u64 (.var 1 0 18446744073709551615) (.lit 4294967296)) (.lit 2147483648)), false), ((.lt (.conv .u32 (.var 1 0 18446744073709551615)) (.conv .u32 (.var 2 0 18446744073709551615))), true), ((.lt (.var 0 0 255) (.lit 77)), false), ((.lt (.var 0 0 255) (.lit 76)), false), ((.lt (.var 0 0 255) (.lit 75)), false), ((.lt (.var 0 0 255) (.lit 72)), false), ((.lt (.var 0 0 255) (.lit 78)), true), ((.lt (.var 0 0 255) (.lit 89)), true), ((.lt (.var 0 0 255) (.lit 67)), false)]) : False := by
  have h0 := hh _ _ (.head _)
  have h1 := hh _ _ (.tail _ (.head _))
  have h2 := hh _ _ (.tail _ (.tail _ (.head _)))
  have h3 := hh _ _ (.tail _ (.tail _ (.tail _ (.head _))))
  have h4 := hh _ _ (.tail _ (.tail _ (.tail _ (.tail _ (.head _)))))
  have h5 := hh _ _ (.tail _ (.tail _ (.tail _ (.tail _ (.tail _ (.head _))))))
  have h6 := hh _ _ (.tail _ (.tail _ (.tail _ (.tail _ (.tail _ (.tail _ (.head _)))))))
  have h7 := hh _ _ (.tail _ (.tail _ (.tail _ (.tail _ (.tail _ (.tail _ (.tail _ (.head _))))))))
  have h8 := hh _ _ (.tail _ (.tail _ (.tail _ (.tail _ (.tail _ (.tail _ (.tail _ (.tail _ (.head _)))))))))
  have h9 := hh _ _ (.tail _ (.tail _ (.tail _ (.tail _ (.tail _ (.tail _ (.tail _ (.tail _ (.tail _ (.head _))))))))))
  have h10 := hh _ _ (.tail _ (.tail _ (.tail _ (.tail _ (.tail _ (.tail _ (.tail _ (.tail _ (.tail _ (.tail _ (.head _)))))))))))
  have h11 := hh _ _ (.tail _ (.tail _ (.tail _ (.tail _ (.tail _ (.tail _ (.tail _ (.tail _ (.tail _ (.tail _ (.tail _ (.head _))))))))))))
  clear hh
  simp only [N.den, aRem, true_iff, Bool.false_eq_true, false_iff, bI_ne, ieq_iff, ilt_iff] at h0 h1 h2 h3 h4 h5 h6 h7 h8 h9 h10 h11
  generalize hA0 : max 0 (min 18446744073709551615 (i 1)) = a at *
  generalize hB0 : max 0 (min 18446744073709551615 (i 2)) = b at *
  generalize max 0 (min 255 (i 0)) = c at *
  have ha : 0 ≤ a ∧ a ≤ 18446744073709551615 := by omega
  have hb : 0 ≤ b ∧ b ≤ 18446744073709551615 := by omega
  clear hA0 hB0
  have ta : a.tmod 4294967296 = a % 4294967296 := Int.tmod_eq_emod_of_nonneg ha.1
  have tb : b.tmod 4294967296 = b % 4294967296 := Int.tmod_eq_emod_of_nonneg hb.1
  have oa := or_hi (a % 4294967296) (by omega) (by omega)
  have ob := or_hi (b % 4294967296) (by omega) (by omega)
  have xa := xor_top (a % 4294967296) (by omega) (by omega)
  have xb := xor_top (b % 4294967296) (by omega) (by omega)
  have xa2 := xor_top (a % 4294967296 + 18446744069414584320) (by omega) (by omega)
  have xb2 := xor_top (b % 4294967296 + 18446744069414584320) (by omega) (by omega)
  have xa3 := xor_top a ha.1 ha.2
  have xb3 := xor_top b hb.1 hb.2
  have wa := w_i32 a
  have wb := w_i32 b
  have va := w_i64 a
  have vb := w_i64 b
  simp only [ta, tb, oa, w_u64, w_u32] at h0 h1 h2 h3 h4 h5 h6 h7 h8 h9 h10 h11
  try simp (disch := omega) only [Int.tmod_eq_emod_of_nonneg] at h0 h1 h2 h3 h4 h5 h6 h7 h8 h9 h10 h11
  omega
theorem exc11_4 (i : Nat → Int) (hh : Holds i [((.eq (.conv .u32 (.var 2 0 18446744073709551615)) (.ar .rem .u64 (.ar .or .u64 (.ar .rem .u64 (.var 1 0 18446744073709551615) (.lit 4294967296)) (.lit 18446744069414584320)) (.lit 4294967296))), false), ((.lt (.ar .rem .u64 (.var 2 0 18446744073709551615) (.lit 4294967296)) (.lit 2147483648)), true), ((.lt (.ar .rem .u64 (.var 1 0 18446744073709551615) (.lit 4294967296)) (.lit 2147483648)), false), ((.lt (.conv .u32 (.var 1 0 18446744073709551615)) (.conv .u32 (.var 2 0 18446744073709551615))), true), ((.lt (.var 0 0 255) (.lit 77)), false), ((.lt (.var 0 0 255) (.lit 76)), false), ((.lt (.var 0 0 255) (.lit 75)), false), ((.lt (.var 0 0 255) (.lit 72)), false), ((.lt (.var 0 0 255) (.lit 78)), true), ((.lt (.var 0 0 255) (.lit 89)), true), ((.lt (.var 0 0 255) (.lit 67)), false)]) : False := by
  have h0 := hh _ _ (.head _)
  have h1 := hh _ _ (.tail _ (.head _))
  have h2 := hh _ _ (.tail _ (.tail _ (.head _)))
  have h3 := hh _ _ (.tail _ (.tail _ (.tail _ (.head _))))
  have h4 := hh _ _ (.tail _ (.tail _ (.tail _ (.tail _ (.head _)))))
  have h5 := hh _ _ (.tail _ (.tail _ (.tail _ (.tail _ (.tail _ (.head _))))))
  have h6 := hh _ _ (.tail _ (.tail _ (.tail _ (.tail _ (.tail _ (.tail _ (.head _)))))))
  have h7 := hh _ _ (.tail _ (.tail _ (.tail _ (.tail _ (.tail _ (.tail _ (.tail _ (.head _))))))))
  have h8 := hh _ _ (.tail _ (.tail _ (.tail _ (.tail _ (.tail _ (.tail _ (.tail _ (.tail _ (.head _)))))))))
  have h9 := hh _ _ (.tail _ (.tail _ (.tail _ (.tail _ (.tail _ (.tail _ (.tail _ (.tail _ (.tail _ (.head _))))))))))
  have h10 := hh _ _ (.tail _ (.tail _ (.tail _ (.tail _ (.tail _ (.tail _ (.tail _ (.tail _ (.tail _ (.tail _ (.head _)))))))))))
  clear hh
  simp only [N.den, aRem, true_iff, Bool.false_eq_true, false_iff, bI_ne, ieq_iff, ilt_iff] at h0 h1 h2 h3 h4 h5 h6 h7 h8 h9 h10
  generalize hA0 : max 0 (min 18446744073709551615 (i 1)) = a at *
  generalize hB0 : max 0 (min 18446744073709551615 (i 2)) = b at *
  generalize max 0 (min 255 (i 0)) = c at *
  have ha : 0 ≤ a ∧ a ≤ 18446744073709551615 := by omega
  have hb : 0 ≤ b ∧ b ≤ 18446744073709551615 := by omega
  clear hA0 hB0
  have ta : a.tmod 4294967296 = a % 4294967296 := Int.tmod_eq_emod_of_nonneg ha.1
  have tb : b.tmod 4294967296 = b % 4294967296 := Int.tmod_eq_emod_of_nonneg hb.1
  have oa := or_hi (a % 4294967296) (by omega) (by omega)
  have ob := or_hi (b % 4294967296) (by omega) (by omega)
  have xa := xor_top (a % 4294967296) (by omega) (by omega)
  have xb := xor_top (b % 4294967296) (by omega) (by omega)
  have xa2 := xor_top (a % 4294967296 + 18446744069414584320) (by omega) (by omega)
  have xb2 := xor_top (b % 4294967296 + 18446744069414584320) (by omega) (by omega)
  have xa3 := xor_top a ha.1 ha.2
  have xb3 := xor_top b hb.1 hb.2
  have wa := w_i32 a
  have wb := w_i32 b
  have va := w_i64 a
  have vb := w_i64 b
  simp only [ta, tb, oa, w_u32] at h0 h1 h2 h3 h4 h5 h6 h7 h8 h9 h10
  try simp (disch := omega) only [Int.tmod_eq_emod_of_nonneg] at h0 h1 h2 h3 h4 h5 h6 h7 h8 h9 h10
  omega
theorem exc11_5 (i : Nat → Int) (hh : Holds i [((.eq (.conv .u64 (.conv .i32 (.var 1 0 18446744073709551615))) (.ar .rem .u64 (.var 1 0 18446744073709551615) (.lit 4294967296))), false), ((.lt (.ar .rem .u64 (.var 2 0 18446744073709551615) (.lit 4294967296)) (.lit 2147483648)), false), ((.lt (.ar .rem .u64 (.var 1 0 18446744073709551615) (.lit 4294967296)) (.lit 2147483648)), true), ((.lt (.conv .u32 (.var 1 0 18446744073709551615)) (.conv .u32 (.var 2 0 18446744073709551615))), true), ((.lt (.var 0 0 255) (.lit 77)), false), ((.lt (.var 0 0 255) (.lit 76)), false), ((.lt (.var 0 0 255) (.lit 75)), false), ((.lt (.var 0 0 255) (.lit 72)), false), ((.lt (.var 0 0 255) (.lit 78)), true), ((.lt (.var 0 0 255) (.lit 89)), true), ((.lt (.var 0 0 255) (.lit 67)), false)]) : False := by
  have h0 := hh _ _ (.head _)
  have h1 := hh _ _ (.tail _ (.head _))
  have h2 := hh _ _ (.tail _ (.tail _ (.head _)))
  have h3 := hh _ _ (.tail _ (.tail _ (.tail _ (.head _))))
  have h4 := hh _ _ (.tail _ (.tail _ (.tail _ (.tail _ (.head _)))))
  have h5 := hh _ _ (.tail _ (.tail _ (.tail _ (.tail _ (.tail _ (.head _))))))
  have h6 := hh _ _ (.tail _ (.tail _ (.tail _ (.tail _ (.tail _ (.tail _ (.head _)))))))
  have h7 := hh _ _ (.tail _ (.tail _ (.tail _ (.tail _ (.tail _ (.tail _ (.tail _ (.head _))))))))
  have h8 := hh _ _ (.tail _ (.tail _ (.tail _ (.tail _ (.tail _ (.tail _ (.tail _ (.tail _ (.head _)))))))))
  have h9 := hh _ _ (.tail _ (.tail _ (.tail _ (.tail _ (.tail _ (.tail _ (.tail _ (.tail _ (.tail _ (.head _))))))))))
  have h10 := hh _ _ (.tail _ (.tail _ (.tail _ (.tail _ (.tail _ (.tail _ (.tail _ (.tail _ (.tail _ (.tail _ (.head _)))))))))))
  clear hh
  simp only [N.den, aRem, true_iff, Bool.false_eq_true, false_iff, bI_ne, ieq_iff, ilt_iff] at h0 h1 h2 h3 h4 h5 h6 h7 h8 h9 h10
  generalize hA0 : max 0 (min 18446744073709551615 (i 1)) = a at *
  generalize hB0 : max 0 (min 18446744073709551615 (i 2)) = b at *
  generalize max 0 (min 255 (i 0)) = c at *
  have ha : 0 ≤ a ∧ a ≤ 18446744073709551615 := by omega
  have hb : 0 ≤ b ∧ b ≤ 18446744073709551615 := by omega
  clear hA0 hB0
  have ta : a.tmod 4294967296 = a % 4294967296 := Int.tmod_eq_emod_of_nonneg ha.1
  have tb : b.tmod 4294967296 = b % 4294967296 := Int.tmod_eq_emod_of_nonneg hb.1
  have oa := or_hi (a % 4294967296) (by omega) (by omega)
  have ob := or_hi (b % 4294967296) (by omega) (by omega)
  have xa := xor_top (a % 4294967296) (by omega) (by omega)
  have xb := xor_top (b % 4294967296) (by omega) (by omega)
  have xa2 := xor_top (a % 4294967296 + 18446744069414584320) (by omega) (by omega)
  have xb2 := xor_top (b % 4294967296 + 18446744069414584320) (by omega) (by omega)
  have xa3 := xor_top a ha.1 ha.2
  have xb3 := xor_top b hb.1 hb.2
  have wa := w_i32 a
  have wb := w_i32 b
  have va := w_i64 a
  have vb := w_i64 b
  simp only [ta, tb, w_u64, w_u32] at h0 h1 h2 h3 h4 h5 h6 h7 h8 h9 h10
  try simp (disch := omega) only [Int.tmod_eq_emod_of_nonneg] at h0 h1 h2 h3 h4 h5 h6 h7 h8 h9 h10
  omega
theorem exc11_6 (i : Nat → Int) (hh : Holds i [((.eq (.conv .u64 (.conv .i32 (.var 1 0 18446744073709551615))) (.ar .rem .u64 (.var 1 0 18446744073709551615) (.lit 4294967296))), false), ((.eq (.conv .u32 (.var 2 0 18446744073709551615)) (.ar .rem .u64 (.ar .rem .u64 (.var 1 0 18446744073709551615) (.lit 4294967296)) (.lit 4294967296))), true), ((.lt (.ar .rem .u64 (.var 2 0 18446744073709551615) (.lit 4294967296)) (.ar .rem .u64 (.var 1 0 18446744073709551615) (.lit 4294967296))), true), ((.lt (.ar .rem .u64 (.var 2 0 18446744073709551615) (.lit 4294967296)) (.lit 2147483648)), true), ((.lt (.ar .rem .u64 (.var 1 0 18446744073709551615) (.lit 4294967296)) (.lit 2147483648)), true), ((.lt (.conv .u32 (.var 1 0 18446744073709551615)) (.conv .u32 (.var 2 0 18446744073709551615))), true), ((.lt (.var 0 0 255) (.lit 77)), false), ((.lt (.var 0 0 255) (.lit 76)), false), ((.lt (.var 0 0 255) (.lit 75)), false), ((.lt (.var 0 0 255) (.lit 72)), false), ((.lt (.var 0 0 255) (.lit 78)), true), ((.lt (.var 0 0 255) (.lit 89)), true), ((.lt (.var 0 0 255) (.lit 67)), false)]) : False := by
  have h0 := hh _ _ (.head _)
  have h1 := hh _ _ (.tail _ (.head _))
  have h2 := hh _ _ (.tail _ (.tail _ (.head _)))
  have h3 := hh _ _ (.tail _ (.tail _ (.tail _ (.head _))))
  have h4 := hh _ _ (.tail _ (.tail _ (.tail _ (.tail _ (.head _)))))
  have h5 := hh _ _ (.tail _ (.tail _ (.tail _ (.tail _ (.tail _ (.head _))))))
  have h6 := hh _ _ (.tail _ (.tail _ (.tail _ (.tail _ (.tail _ (.tail _ (.head _)))))))
  have h7 := hh _ _ (.tail _ (.tail _ (.tail _ (.tail _ (.tail _ (.tail _ (.tail _ (.head _))))))))
  have h8 := hh _ _ (.tail _ (.tail _ (.tail _ (.tail _ (.tail _ (.tail _ (.tail _ (.tail _ (.head _)))))))))
  have h9 := hh _ _ (.tail _ (.tail _ (.tail _ (.tail _ (.tail _ (.tail _ (.tail _ (.tail _ (.tail _ (.head _))))))))))
  have h10 := hh _ _ (.tail _ (.tail _ (.tail _ (.tail _ (.tail _ (.tail _ (.tail _ (.tail _ (.tail _ (.tail _ (.head _)))))))))))
  have h11 := hh _ _ (.tail _ (.tail _ (.tail _ (.tail _ (.tail _ (.tail _ (.tail _ (.tail _ (.tail _ (.tail _ (.tail _ (.head _))))))))))))
  have h12 := hh _ _ (.tail _ (.tail _ (.tail _ (.tail _ (.tail _ (.tail _ (.tail _ (.tail _ (.tail _ (.tail _ (.tail _ (.tail _ (.head _)))))))))))))
  clear hh
  simp only [N.den, aRem, true_iff, Bool.false_eq_true, false_iff, bI_ne, ieq_iff, ilt_iff] at h0 h1 h2 h3 h4 h5 h6 h7 h8 h9 h10 h11 h12
  generalize hA0 : max 0 (min 18446744073709551615 (i 1)) = a at *
  generalize hB0 : max 0 (min 18446744073709551615 (i 2)) = b at *
  generalize max 0 (min 255 (i 0)) = c at *
  have ha : 0 ≤ a ∧ a ≤ 18446744073709551615 := by omega
  have hb : 0 ≤ b ∧ b ≤ 18446744073709551615 := by omega
  clear hA0 hB0
  have ta : a.tmod 4294967296 = a % 4294967296 := Int.tmod_eq_emod_of_nonneg ha.1
  have tb : b.tmod 4294967296 = b % 4294967296 := Int.tmod_eq_emod_of_nonneg hb.1
  have oa := or_hi (a % 4294967296) (by omega) (by omega)
  have ob := or_hi (b % 4294967296) (by omega) (by omega)
  have xa := xor_top (a % 4294967296) (by omega) (by omega)
  have xb := xor_top (b % 4294967296) (by omega) (by omega)
  have xa2 := xor_top (a % 4294967296 + 18446744069414584320) (by omega) (by omega)
  have xb2 := xor_top (b % 4294967296 + 18446744069414584320) (by omega) (by omega)
  have xa3 := xor_top a ha.1 ha.2
  have xb3 := xor_top b hb.1 hb.2
  have wa := w_i32 a
  have wb := w_i32 b
  have va := w_i64 a
  have vb := w_i64 b
  simp only [ta, tb, w_u64, w_u32] at h0 h1 h2 h3 h4 h5 h6 h7 h8 h9 h10 h11 h12
  try simp (disch := omega) only [Int.tmod_eq_emod_of_nonneg] at h0 h1 h2 h3 h4 h5 h6 h7 h8 h9 h10 h11 h12
  omega
theorem exc11_7 (i : Nat → Int) (hh : Holds i [((.eq (.conv .u32 (.var 2 0 18446744073709551615)) (.ar .rem .u64 (.ar .rem .u64 (.var 1 0 18446744073709551615) (.lit 4294967296)) (.lit 4294967296))), false), ((.lt (.ar .rem .u64 (.var 2 0 18446744073709551615) (.lit 4294967296)) (.ar .rem .u64 (.var 1 0 18446744073709551615) (.lit 4294967296))), true), ((.lt (.ar .rem .u64 (.var 2 0 18446744073709551615) (.lit 4294967296)) (.lit 2147483648)), true), ((.lt (.ar .rem .u64 (.var 1 0 18446744073709551615) (.lit 4294967296)) (.lit 2147483648)), true), ((.lt (.conv .u32 (.var 1 0 18446744073709551615)) (.conv .u32 (.var 2 0 18446744073709551615))), true), ((.lt (.var 0 0 255) (.lit 77)), false), ((.lt (.var 0 0 255) (.lit 76)), false), ((.lt (.var 0 0 255) (.lit 75)), false), ((.lt (.var 0 0 255) (.lit 72)), false), ((.lt (.var 0 0 255) (.lit 78)), true), ((.lt (.var 0 0 255) (.lit 89)), true), ((.lt (.var 0 0 255) (.lit 67)), false)]) : False := by
  have h0 := hh _ _ (.head _)
  have h1 := hh _ _ (.tail _ (.head _))
  have h2 := hh _ _ (.tail _ (.tail _ (.head _)))
  have h3 := hh _ _ (.tail _ (.tail _ (.tail _ (.head _))))
  have h4 := hh _ _ (.tail _ (.tail _ (.tail _ (.tail _ (.head _)))))
  have h5 := hh _ _ (.tail _ (.tail _ (.tail _ (.tail _ (.tail _ (.head _))))))
  have h6 := hh _ _ (.tail _ (.tail _ (.tail _ (.tail _ (.tail _ (.tail _ (.head _)))))))
  have h7 := hh _ _ (.tail _ (.tail _ (.tail _ (.tail _ (.tail _ (.tail _ (.tail _ (.head _))))))))
  have h8 := hh _ _ (.tail _ (.tail _ (.tail _ (.tail _ (.tail _ (.tail _ (.tail _ (.tail _ (.head _)))))))))
  have h9 := hh _ _ (.tail _ (.tail _ (.tail _ (.tail _ (.tail _ (.tail _ (.tail _ (.tail _ (.tail _ (.head _))))))))))
  have h10 := hh _ _ (.tail _ (.tail _ (.tail _ (.tail _ (.tail _ (.tail _ (.tail _ (.tail _ (.tail _ (.tail _ (.head _)))))))))))
  have h11 := hh _ _ (.tail _ (.tail _ (.tail _ (.tail _ (.tail _ (.tail _ (.tail _ (.tail _ (.tail _ (.tail _ (.tail _ (.head _))))))))))))
  clear hh
  simp only [N.den, aRem, true_iff, Bool.false_eq_true, false_iff, bI_ne, ieq_iff, ilt_iff] at h0 h1 h2 h3 h4 h5 h6 h7 h8 h9 h10 h11
  generalize hA0 : max 0 (min 18446744073709551615 (i 1)) = a at *
  generalize hB0 : max 0 (min 18446744073709551615 (i 2)) = b at *
  generalize max 0 (min 255 (i 0)) = c at *
  have ha : 0 ≤ a ∧ a ≤ 18446744073709551615 := by omega
  have hb : 0 ≤ b ∧ b ≤ 18446744073709551615 := by omega
  clear hA0 hB0
  have ta : a.tmod 4294967296 = a % 4294967296 := Int.tmod_eq_emod_of_nonneg ha.1
  have tb : b.tmod 4294967296 = b % 4294967296 := Int.tmod_eq_emod_of_nonneg hb.1
  have oa := or_hi (a % 4294967296) (by omega) (by omega)
  have ob := or_hi (b % 4294967296) (by omega) (by omega)
  have xa := xor_top (a % 4294967296) (by omega) (by omega)
  have xb := xor_top (b % 4294967296) (by omega) (by omega)
  have xa2 := xor_top (a % 4294967296 + 18446744069414584320) (by omega) (by omega)
  have xb2 := xor_top (b % 4294967296 + 18446744069414584320) (by omega) (by omega)
  have xa3 := xor_top a ha.1 ha.2
  have xb3 := xor_top b hb.1 hb.2
  have wa := w_i32 a
  have wb := w_i32 b
  have va := w_i64 a
  have vb := w_i64 b
  simp only [ta, tb, w_u32] at h0 h1 h2 h3 h4 h5 h6 h7 h8 h9 h10 h11
  try simp (disch := omega) only [Int.tmod_eq_emod_of_nonneg] at h0 h1 h2 h3 h4 h5 h6 h7 h8 h9 h10 h11
  omega
theorem exc11_8 (i : Nat → Int) (hh : Holds i [((.eq (.conv .u64 (.conv .i32 (.var 1 0 18446744073709551615))) (.ar .rem .u64 (.var 1 0 18446744073709551615) (.lit 4294967296))), false), ((.lt (.ar .rem .u64 (.var 2 0 18446744073709551615) (.lit 4294967296)) (.ar .rem .u64 (.var 1 0 18446744073709551615) (.lit 4294967296))), false), ((.lt (.ar .rem .u64 (.var 2 0 18446744073709551615) (.lit 4294967296)) (.lit 2147483648)), true), ((.lt (.ar .rem .u64 (.var 1 0 18446744073709551615) (.lit 4294967296)) (.lit 2147483648)), true), ((.lt (.conv .u32 (.var 1 0 18446744073709551615)) (.conv .u32 (.var 2 0 18446744073709551615))), true), ((.lt (.var 0 0 255) (.lit 77)), false), ((.lt (.var 0 0 255) (.lit 76)), false), ((.lt (.var 0 0 255) (.lit 75)), false), ((.lt (.var 0 0 255) (.lit 72)), false), ((.lt (.var 0 0 255) (.lit 78)), true), ((.lt (.var 0 0 255) (.lit 89)), true), ((.lt (.var 0 0 255) (.lit 67)), false)]) : False := by
  have h0 := hh _ _ (.head _)
  have h1 := hh _ _ (.tail _ (.head _))
  have h2 := hh _ _ (.tail _ (.tail _ (.head _)))
  have h3 := hh _ _ (.tail _ (.tail _ (.tail _ (.head _))))
  have h4 := hh _ _ (.tail _ (.tail _ (.tail _ (.tail _ (.head _)))))
  have h5 := hh _ _ (.tail _ (.tail _ (.tail _ (.tail _ (.tail _ (.head _))))))
  have h6 := hh _ _ (.tail _ (.tail _ (.tail _ (.tail _ (.tail _ (.tail _ (.head _)))))))
  have h7 := hh _ _ (.tail _ (.tail _ (.tail _ (.tail _ (.tail _ (.tail _ (.tail _ (.head _))))))))
  have h8 := hh _ _ (.tail _ (.tail _ (.tail _ (.tail _ (.tail _ (.tail _ (.tail _ (.tail _ (.head _)))))))))
  have h9 := hh _ _ (.tail _ (.tail _ (.tail _ (.tail _ (.tail _ (.tail _ (.tail _ (.tail _ (.tail _ (.head _))))))))))
  have h10 := hh _ _ (.tail _ (.tail _ (.tail _ (.tail _ (.tail _ (.tail _ (.tail _ (.tail _ (.tail _ (.tail _ (.head _)))))))))))
  have h11 := hh _ _ (.tail _ (.tail _ (.tail _ (.tail _ (.tail _ (.tail _ (.tail _ (.tail _ (.tail _ (.tail _ (.tail _ (.head _))))))))))))
  clear hh
  simp only [N.den, aRem, true_iff, Bool.false_eq_true, false_iff, bI_ne, ieq_iff, ilt_iff] at h0 h1 h2 h3 h4 h5 h6 h7 h8 h9 h10 h11
  generalize hA0 : max 0 (min 18446744073709551615 (i 1)) = a at *
  generalize hB0 : max 0 (min 18446744073709551615 (i 2)) = b at *
  generalize max 0 (min 255 (i 0)) = c at *
  have ha : 0 ≤ a ∧ a ≤ 18446744073709551615 := by omega
  have hb : 0 ≤ b ∧ b ≤ 18446744073709551615 := by omega
  clear hA0 hB0
  have ta : a.tmod 4294967296 = a % 4294967296 := Int.tmod_eq_emod_of_nonneg ha.1
  have tb : b.tmod 4294967296 = b % 4294967296 := Int.tmod_eq_emod_of_nonneg hb.1
  have oa := or_hi (a % 4294967296) (by omega) (by omega)
  have ob := or_hi (b % 4294967296) (by omega) (by omega)
  have xa := xor_top (a % 4294967296) (by omega) (by omega)
  have xb := xor_top (b % 4294967296) (by omega) (by omega)
  have xa2 := xor_top (a % 4294967296 + 18446744069414584320) (by omega) (by omega)
  have xb2 := xor_top (b % 4294967296 + 18446744069414584320) (by omega) (by omega)
  have xa3 := xor_top a ha.1 ha.2
  have xb3 := xor_top b hb.1 hb.2
  have wa := w_i32 a
  have wb := w_i32 b
  have va := w_i64 a
  have vb := w_i64 b
  simp only [ta, tb, w_u64, w_u32] at h0 h1 h2 h3 h4 h5 h6 h7 h8 h9 h10 h11
  try simp (disch := omega) only [Int.tmod_eq_emod_of_nonneg] at h0 h1 h2 h3 h4 h5 h6 h7 h8 h9 h10 h11
  omega
theorem exc11_9 (i : Nat → Int) (hh : Holds i [((.eq (.conv .u64 (.conv .i32 (.var 1 0 18446744073709551615))) (.ar .or .u64 (.ar .rem .u64 (.var 1 0 18446744073709551615) (.lit 4294967296)) (.lit 18446744069414584320))), false), ((.lt (.ar .or .u64 (.ar .rem .u64 (.var 2 0 18446744073709551615) (.lit 4294967296)) (.lit 18446744069414584320)) (.ar .or .u64 (.ar .rem .u64 (.var 1 0 18446744073709551615) (.lit 4294967296)) (.lit 18446744069414584320))), true), ((.lt (.ar .rem .u64 (.var 2 0 18446744073709551615) (.lit 4294967296)) (.lit 2147483648)), false), ((.lt (.ar .rem .u64 (.var 1 0 18446744073709551615) (.lit 4294967296)) (.lit 2147483648)), false), ((.lt (.conv .u32 (.var 1 0 18446744073709551615)) (.conv .u32 (.var 2 0 18446744073709551615))), false), ((.lt (.var 0 0 255) (.lit 77)), false), ((.lt (.var 0 0 255) (.lit 76)), false), ((.lt (.var 0 0 255) (.lit 75)), false), ((.lt (.var 0 0 255) (.lit 72)), false), ((.lt (.var 0 0 255) (.lit 78)), true), ((.lt (.var 0 0 255) (.lit 89)), true), ((.lt (.var 0 0 255) (.lit 67)), false)]) : False := by
  have h0 := hh _ _ (.head _)
  have h1 := hh _ _ (.tail _ (.head _))
  have h2 := hh _ _ (.tail _ (.tail _ (.head _)))
  have h3 := hh _ _ (.tail _ (.tail _ (.tail _ (.head _))))
  have h4 := hh _ _ (.tail _ (.tail _ (.tail _ (.tail _ (.head _)))))
  have h5 := hh _ _ (.tail _ (.tail _ (.tail _ (.tail _ (.tail _ (.head _))))))
  have h6 := hh _ _ (.tail _ (.tail _ (.tail _ (.tail _ (.tail _ (.tail _ (.head _)))))))
  have h7 := hh _ _ (.tail _ (.tail _ (.tail _ (.tail _ (.tail _ (.tail _ (.tail _ (.head _))))))))
  have h8 := hh _ _ (.tail _ (.tail _ (.tail _ (.tail _ (.tail _ (.tail _ (.tail _ (.tail _ (.head _)))))))))
  have h9 := hh _ _ (.tail _ (.tail _ (.tail _ (.tail _ (.tail _ (.tail _ (.tail _ (.tail _ (.tail _ (.head _))))))))))
  have h10 := hh _ _ (.tail _ (.tail _ (.tail _ (.tail _ (.tail _ (.tail _ (.tail _ (.tail _ (.tail _ (.tail _ (.head _)))))))))))
  have h11 := hh _ _ (.tail _ (.tail _ (.tail _ (.tail _ (.tail _ (.tail _ (.tail _ (.tail _ (.tail _ (.tail _ (.tail _ (.head _))))))))))))
  clear hh
  simp only [N.den, aRem, true_iff, Bool.false_eq_true, false_iff, bI_ne, ieq_iff, ilt_iff] at h0 h1 h2 h3 h4 h5 h6 h7 h8 h9 h10 h11
  generalize hA0 : max 0 (min 18446744073709551615 (i 1)) = a at *
  generalize hB0 : max 0 (min 18446744073709551615 (i 2)) = b at *
  generalize max 0 (min 255 (i 0)) = c at *
  have ha : 0 ≤ a ∧ a ≤ 18446744073709551615 := by omega
  have hb : 0 ≤ b ∧ b ≤ 18446744073709551615 := by omega
  clear hA0 hB0
  have ta : a.tmod 4294967296 = a % 4294967296 := Int.tmod_eq_emod_of_nonneg ha.1
  have tb : b.tmod 4294967296 = b % 4294967296 := Int.tmod_eq_emod_of_nonneg hb.1
  have oa := or_hi (a % 4294967296) (by omega) (by omega)
  have ob := or_hi (b % 4294967296) (by omega) (by omega)
  have xa := xor_top (a % 4294967296) (by omega) (by omega)
  have xb := xor_top (b % 4294967296) (by omega) (by omega)
  have xa2 := xor_top (a % 4294967296 + 18446744069414584320) (by omega) (by omega)
  have xb2 := xor_top (b % 4294967296 + 18446744069414584320) (by omega) (by omega)
  have xa3 := xor_top a ha.1 ha.2
  have xb3 := xor_top b hb.1 hb.2
  have wa := w_i32 a
  have wb := w_i32 b
  have va := w_i64 a
  have vb := w_i64 b
  simp only [ta, tb, oa, ob, w_u64, w_u32] at h0 h1 h2 h3 h4 h5 h6 h7 h8 h9 h10 h11
  try simp (disch := omega) only [Int.tmod_eq_emod_of_nonneg] at h0 h1 h2 h3 h4 h5 h6 h7 h8 h9 h10 h11
  omega
theorem exc11_10 (i : Nat → Int) (hh : Holds i [((.eq (.conv .u64 (.conv .i32 (.var 1 0 18446744073709551615))) (.ar .or .u64 (.ar .rem .u64 (.var 1 0 18446744073709551615) (.lit 4294967296)) (.lit 18446744069414584320))), false), ((.eq (.conv .u32 (.var 1 0 18446744073709551615)) (.ar .rem .u64 (.ar .or .u64 (.ar .rem .u64 (.var 2 0 18446744073709551615) (.lit 4294967296)) (.lit 18446744069414584320)) (.lit 4294967296))), true), ((.lt (.ar .or .u64 (.ar .rem .u64 (.var 2 0 18446744073709551615) (.lit 4294967296)) (.lit 18446744069414584320)) (.ar .or .u64 (.ar .rem .u64 (.var 1 0 18446744073709551615) (.lit 4294967296)) (.lit 18446744069414584320))), false), ((.lt (.ar .rem .u64 (.var 2 0 18446744073709551615) (.lit 4294967296)) (.lit 2147483648)), false), ((.lt (.ar .rem .u64 (.var 1 0 18446744073709551615) (.lit 4294967296)) (.lit 2147483648)), false), ((.lt (.conv .u32 (.var 1 0 18446744073709551615)) (.conv .u32 (.var 2 0 18446744073709551615))), false), ((.lt (.var 0 0 255) (.lit 77)), false), ((.lt (.var 0 0 255) (.lit 76)), false), ((.lt (.var 0 0 255) (.lit 75)), false), ((.lt (.var 0 0 255) (.lit 72)), false), ((.lt (.var 0 0 255) (.lit 78)), true), ((.lt (.var 0 0 255) (.lit 89)), true), ((.lt (.var 0 0 255) (.lit 67)), false)]) : False := by
  have h0 := hh _ _ (.head _)
  have h1 := hh _ _ (.tail _ (.head _))
  have h2 := hh _ _ (.tail _ (.tail _ (.head _)))
  have h3 := hh _ _ (.tail _ (.tail _ (.tail _ (.head _))))
  have h4 := hh _ _ (.tail _ (.tail _ (.tail _ (.tail _ (.head _)))))
  have h5 := hh _ _ (.tail _ (.tail _ (.tail _ (.tail _ (.tail _ (.head _))))))
  have h6 := hh _ _ (.tail _ (.tail _ (.tail _ (.tail _ (.tail _ (.tail _ (.head _)))))))
  have h7 := hh _ _ (.tail _ (.tail _ (.tail _ (.tail _ (.tail _ (.tail _ (.tail _ (.head _))))))))
  have h8 := hh _ _ (.tail _ (.tail _ (.tail _ (.tail _ (.tail _ (.tail _ (.tail _ (.tail _ (.head _)))))))))
  have h9 := hh _ _ (.tail _ (.tail _ (.tail _ (.tail _ (.tail _ (.tail _ (.tail _ (.tail _ (.tail _ (.head _))))))))))
  have h10 := hh _ _ (.tail _ (.tail _ (.tail _ (.tail _ (.tail _ (.tail _ (.tail _ (.tail _ (.tail _ (.tail _ (.head _)))))))))))
  have h11 := hh _ _ (.tail _ (.tail _ (.tail _ (.tail _ (.tail _ (.tail _ (.tail _ (.tail _ (.tail _ (.tail _ (.tail _ (.head _))))))))))))
  have h12 := hh _ _ (.tail _ (.tail _ (.tail _ (.tail _ (.tail _ (.tail _ (.tail _ (.tail _ (.tail _ (.tail _ (.tail _ (.tail _ (.head _)))))))))))))
  clear hh
  simp only [N.den, aRem, true_iff, Bool.false_eq_true, false_iff, bI_ne, ieq_iff, ilt_iff] at h0 h1 h2 h3 h4 h5 h6 h7 h8 h9 h10 h11 h12
  generalize hA0 : max 0 (min 18446744073709551615 (i 1)) = a at *
  generalize hB0 : max 0 (min 18446744073709551615 (i 2)) = b at *
  generalize max 0 (min 255 (i 0)) = c at *
  have ha : 0 ≤ a ∧ a ≤ 18446744073709551615 := by omega
  have hb : 0 ≤ b ∧ b ≤ 18446744073709551615 := by omega
  clear hA0 hB0
  have ta : a.tmod 4294967296 = a % 4294967296 := Int.tmod_eq_emod_of_nonneg ha.1
  have tb : b.tmod 4294967296 = b % 4294967296 := Int.tmod_eq_emod_of_nonneg hb.1
  have oa := or_hi (a % 4294967296) (by omega) (by omega)
  have ob := or_hi (b % 4294967296) (by omega) (by omega)
  have xa := xor_top (a % 4294967296) (by omega) (by omega)
  have xb := xor_top (b % 4294967296) (by omega) (by omega)
  have xa2 := xor_top (a % 4294967296 + 18446744069414584320) (by omega) (by omega)
  have xb2 := xor_top (b % 4294967296 + 18446744069414584320) (by omega) (by omega)
  have xa3 := xor_top a ha.1 ha.2
  have xb3 := xor_top b hb.1 hb.2
  have wa := w_i32 a
  have wb := w_i32 b
  have va := w_i64 a
  have vb := w_i64 b
  simp only [ta, tb, oa, ob, w_u64, w_u32] at h0 h1 h2 h3 h4 h5 h6 h7 h8 h9 h10 h11 h12
  try simp (disch := omega) only [Int.tmod_eq_emod_of_nonneg] at h0 h1 h2 h3 h4 h5 h6 h7 h8 h9 h10 h11 h12
  omega
theorem exc11_11 (i : Nat → Int) (hh : Holds i [((.eq (.conv .u32 (.var 1 0 18446744073709551615)) (.ar .rem .u64 (.ar .or .u64 (.ar .rem .u64 (.var 2 0 18446744073709551615) (.lit 4294967296)) (.lit 18446744069414584320)) (.lit 4294967296))), false), ((.lt (.ar .or .u64 (.ar .rem .u64 (.var 2 0 18446744073709551615) (.lit 4294967296)) (.lit 18446744069414584320)) (.ar .or .u64 (.ar .rem .u64 (.var 1 0 18446744073709551615) (.lit 4294967296)) (.lit 18446744069414584320))), false), ((.lt (.ar .rem .u64 (.var 2 0 18446744073709551615) (.lit 4294967296)) (.lit 2147483648)), false), ((.lt (.ar .rem .u64 (.var 1 0 18446744073709551615) (.lit 4294967296)) (.lit 2147483648)), false), ((.lt (.conv .u32 (.var 1 0 18446744073709551615)) (.conv .u32 (.var 2 0 18446744073709551615))), false), ((.lt (.var 0 0 255) (.lit 77)), false), ((.lt (.var 0 0 255) (.lit 76)), false), ((.lt (.var 0 0 255) (.lit 75)), false), ((.lt (.var 0 0 255) (.lit 72)), false), ((.lt (.var 0 0 255) (.lit 78)), true), ((.lt (.var 0 0 255) (.lit 89)), true), ((.lt (.var 0 0 255) (.lit 67)), false)]) : False := by
  have h0 := hh _ _ (.head _)
  have h1 := hh _ _ (.tail _ (.head _))
  have h2 := hh _ _ (.tail _ (.tail _ (.head _)))
  have h3 := hh _ _ (.tail _ (.tail _ (.tail _ (.head _))))
  have h4 := hh _ _ (.tail _ (.tail _ (.tail _ (.tail _ (.head _)))))
  have h5 := hh _ _ (.tail _ (.tail _ (.tail _ (.tail _ (.tail _ (.head _))))))
  have h6 := hh _ _ (.tail _ (.tail _ (.tail _ (.tail _ (.tail _ (.tail _ (.head _)))))))
  have h7 := hh _ _ (.tail _ (.tail _ (.tail _ (.tail _ (.tail _ (.tail _ (.tail _ (.head _))))))))
  have h8 := hh _ _ (.tail _ (.tail _ (.tail _ (.tail _ (.tail _ (.tail _ (.tail _ (.tail _ (.head _)))))))))
  have h9 := hh _ _ (.tail _ (.tail _ (.tail _ (.tail _ (.tail _ (.tail _ (.tail _ (.tail _ (.tail _ (.head _))))))))))
  have h10 := hh _ _ (.tail _ (.tail _ (.tail _ (.tail _ (.tail _ (.tail _ (.tail _ (.tail _ (.tail _ (.tail _ (.head _)))))))))))
  have h11 := hh _ _ (.tail _ (.tail _ (.tail _ (.tail _ (.tail _ (.tail _ (.tail _ (.tail _ (.tail _ (.tail _ (.tail _ (.head _))))))))))))
  clear hh
  simp only [N.den, aRem, true_iff, Bool.false_eq_true, false_iff, bI_ne, ieq_iff, ilt_iff] at h0 h1 h2 h3 h4 h5 h6 h7 h8 h9 h10 h11
  generalize hA0 : max 0 (min 18446744073709551615 (i 1)) = a at *
  generalize hB0 : max 0 (min 18446744073709551615 (i 2)) = b at *
  generalize max 0 (min 255 (i 0)) = c at *
  have ha : 0 ≤ a ∧ a ≤ 18446744073709551615 := by omega
  have hb : 0 ≤ b ∧ b ≤ 18446744073709551615 := by omega
  clear hA0 hB0
  have ta : a.tmod 4294967296 = a % 4294967296 := Int.tmod_eq_emod_of_nonneg ha.1
  have tb : b.tmod 4294967296 = b % 4294967296 := Int.tmod_eq_emod_of_nonneg hb.1
  have oa := or_hi (a % 4294967296) (by omega) (by omega)
  have ob := or_hi (b % 4294967296) (by omega) (by omega)
  have xa := xor_top (a % 4294967296) (by omega) (by omega)
  have xb := xor_top (b % 4294967296) (by omega) (by omega)
  have xa2 := xor_top (a % 4294967296 + 18446744069414584320) (by omega) (by omega)
  have xb2 := xor_top (b % 4294967296 + 18446744069414584320) (by omega) (by omega)
  have xa3 := xor_top a ha.1 ha.2
  have xb3 := xor_top b hb.1 hb.2
  have wa := w_i32 a
  have wb := w_i32 b
  have va := w_i64 a
  have vb := w_i64 b
  simp only [ta, tb, oa, ob, w_u32] at h0 h1 h2 h3 h4 h5 h6 h7 h8 h9 h10 h11
  try simp (disch := omega) only [Int.tmod_eq_emod_of_nonneg] at h0 h1 h2 h3 h4 h5 h6 h7 h8 h9 h10 h11
  omega
theorem exc11_12 (i : Nat → Int) (hh : Holds i [((.eq (.conv .u64 (.conv .i32 (.var 1 0 18446744073709551615))) (.ar .or .u64 (.ar .rem .u64 (.var 1 0 18446744073709551615) (.lit 4294967296)) (.lit 18446744069414584320))), false), ((.lt (.ar .rem .u64 (.var 2 0 18446744073709551615) (.lit 4294967296)) (.lit 2147483648)), true), ((.lt (.ar .rem .u64 (.var 1 0 18446744073709551615) (.lit 4294967296)) (.lit 2147483648)), false), ((.lt (.conv .u32 (.var 1 0 18446744073709551615)) (.conv .u32 (.var 2 0 18446744073709551615))), false), ((.lt (.var 0 0 255) (.lit 77)), false), ((.lt (.var 0 0 255) (.lit 76)), false), ((.lt (.var 0 0 255) (.lit 75)), false), ((.lt (.var 0 0 255) (.lit 72)), false), ((.lt (.var 0 0 255) (.lit 78)), true), ((.lt (.var 0 0 255) (.lit 89)), true), ((.lt (.var 0 0 255) (.lit 67)), false)]) : False := by
  have h0 := hh _ _ (.head _)
  have h1 := hh _ _ (.tail _ (.head _))
  have h2 := hh _ _ (.tail _ (.tail _ (.head _)))
  have h3 := hh _ _ (.tail _ (.tail _ (.tail _ (.head _))))
  have h4 := hh _ _ (.tail _ (.tail _ (.tail _ (.tail _ (.head _)))))
  have h5 := hh _ _ (.tail _ (.tail _ (.tail _ (.tail _ (.tail _ (.head _))))))
  have h6 := hh _ _ (.tail _ (.tail _ (.tail _ (.tail _ (.tail _ (.tail _ (.head _)))))))
  have h7 := hh _ _ (.tail _ (.tail _ (.tail _ (.tail _ (.tail _ (.tail _ (.tail _ (.head _))))))))
  have h8 := hh _ _ (.tail _ (.tail _ (.tail _ (.tail _ (.tail _ (.tail _ (.tail _ (.tail _ (.head _)))))))))
  have h9 := hh _ _ (.tail _ (.tail _ (.tail _ (.tail _ (.tail _ (.tail _ (.tail _ (.tail _ (.tail _ (.head _))))))))))
  have h10 := hh _ _ (.tail _ (.tail _ (.tail _ (.tail _ (.tail _ (.tail _ (.tail _ (.tail _ (.tail _ (.tail _ (.head _)))))))))))
  clear hh
  simp only [N.den, aRem, true_iff, Bool.false_eq_true, false_iff, bI_ne, ieq_iff, ilt_iff] at h0 h1 h2 h3 h4 h5 h6 h7 h8 h9 h10
  generalize hA0 : max 0 (min 18446744073709551615 (i 1)) = a at *
  generalize hB0 : max 0 (min 18446744073709551615 (i 2)) = b at *
  generalize max 0 (min 255 (i 0)) = c at *
  have ha : 0 ≤ a ∧ a ≤ 18446744073709551615 := by omega
  have hb : 0 ≤ b ∧ b ≤ 18446744073709551615 := by omega
  clear hA0 hB0
  have ta : a.tmod 4294967296 = a % 4294967296 := Int.tmod_eq_emod_of_nonneg ha.1
  have tb : b.tmod 4294967296 = b % 4294967296 := Int.tmod_eq_emod_of_nonneg hb.1
  have oa := or_hi (a % 4294967296) (by omega) (by omega)
  have ob := or_hi (b % 4294967296) (by omega) (by omega)
  have xa := xor_top (a % 4294967296) (by omega) (by omega)
  have xb := xor_top (b % 4294967296) (by omega) (by omega)
  have xa2 := xor_top (a % 4294967296 + 18446744069414584320) (by omega) (by omega)
  have xb2 := xor_top (b % 4294967296 + 18446744069414584320) (by omega) (by omega)
  have xa3 := xor_top a ha.1 ha.2
  have xb3 := xor_top b hb.1 hb.2
  have wa := w_i32 a
  have wb := w_i32 b
  have va := w_i64 a
  have vb := w_i64 b
  simp only [ta, tb, oa, w_u64, w_u32] at h0 h1 h2 h3 h4 h5 h6 h7 h8 h9 h10
  try simp (disch := omega) only [Int.tmod_eq_emod_of_nonneg] at h0 h1 h2 h3 h4 h5 h6 h7 h8 h9 h10
  omega
theorem exc11_13 (i : Nat → Int) (hh : Holds i [((.eq (.conv .u64 (.conv .i32 (.var 1 0 18446744073709551615))) (.ar .rem .u64 (.var 1 0 18446744073709551615) (.lit 4294967296))), false), ((.eq (.conv .u32 (.var 1 0 18446744073709551615)) (.ar .rem .u64 (.ar .or .u64 (.ar .rem .u64 (.var 2 0 18446744073709551615) (.lit 4294967296)) (.lit 18446744069414584320)) (.lit 4294967296))), true), ((.lt (.ar .rem .u64 (.var 2 0 18446744073709551615) (.lit 4294967296)) (.lit 2147483648)), false), ((.lt (.ar .rem .u64 (.var 1 0 18446744073709551615) (.lit 4294967296)) (.lit 2147483648)), true), ((.lt (.conv .u32 (.var 1 0 18446744073709551615)) (.conv .u32 (.var 2 0 18446744073709551615))), false), ((.lt (.var 0 0 255) (.lit 77)), false), ((.lt (.var 0 0 255) (.lit 76)), false), ((.lt (.var 0 0 255) (.lit 75)), false), ((.lt (.var 0 0 255) (.lit 72)), false), ((.lt (.var 0 0 255) (.lit 78)), true), ((.lt (.var 0 0 255) (.lit 89)), true), ((.lt (.var 0 0 255) (.lit 67)), false)]) : False := by
  have h0 := hh _ _ (.head _)
  have h1 := hh _ _ (.tail _ (.head _))
  have h2 := hh _ _ (.tail _ (.tail _ (.head _)))
  have h3 := hh _ _ (.tail _ (.tail _ (.tail _ (.head _))))
  have h4 := hh _ _ (.tail _ (.tail _ (.tail _ (.tail _ (.head _)))))
  have h5 := hh _ _ (.tail _ (.tail _ (.tail _ (.tail _ (.tail _ (.head _))))))
  have h6 := hh _ _ (.tail _ (.tail _ (.tail _ (.tail _ (.tail _ (.tail _ (.head _)))))))
  have h7 := hh _ _ (.tail _ (.tail _ (.tail _ (.tail _ (.tail _ (.tail _ (.tail _ (.head _))))))))
  have h8 := hh _ _ (.tail _ (.tail _ (.tail _ (.tail _ (.tail _ (.tail _ (.tail _ (.tail _ (.head _)))))))))
  have h9 := hh _ _ (.tail _ (.tail _ (.tail _ (.tail _ (.tail _ (.tail _ (.tail _ (.tail _ (.tail _ (.head _))))))))))
  have h10 := hh _ _ (.tail _ (.tail _ (.tail _ (.tail _ (.tail _ (.tail _ (.tail _ (.tail _ (.tail _ (.tail _ (.head _)))))))))))
  have h11 := hh _ _ (.tail _ (.tail _ (.tail _ (.tail _ (.tail _ (.tail _ (.tail _ (.tail _ (.tail _ (.tail _ (.tail _ (.head _))))))))))))
  clear hh
  simp only [N.den, aRem, true_iff, Bool.false_eq_true, false_iff, bI_ne, ieq_iff, ilt_iff] at h0 h1 h2 h3 h4 h5 h6 h7 h8 h9 h10 h11
  generalize hA0 : max 0 (min 18446744073709551615 (i 1)) = a at *
  generalize hB0 : max 0 (min 18446744073709551615 (i 2)) = b at *
  generalize max 0 (min 255 (i 0)) = c at *
  have ha : 0 ≤ a ∧ a ≤ 18446744073709551615 := by omega
  have hb : 0 ≤ b ∧ b ≤ 18446744073709551615 := by omega
  clear hA0 hB0
  have ta : a.tmod 4294967296 = a % 4294967296 := Int.tmod_eq_emod_of_nonneg ha.1
  have tb : b.tmod 4294967296 = b % 4294967296 := Int.tmod_eq_emod_of_nonneg hb.1
  have oa := or_hi (a % 4294967296) (by omega) (by omega)
  have ob := or_hi (b % 4294967296) (by omega) (by omega)
  have xa := xor_top (a % 4294967296) (by omega) (by omega)
  have xb := xor_top (b % 4294967296) (by omega) (by omega)
  have xa2 := xor_top (a % 4294967296 + 18446744069414584320) (by omega) (by omega)
  have xb2 := xor_top (b % 4294967296 + 18446744069414584320) (by omega) (by omega)
  have xa3 := xor_top a ha.1 ha.2
  have xb3 := xor_top b hb.1 hb.2
  have wa := w_i32 a
  have wb := w_i32 b
  have va := w_i64 a
  have vb := w_i64 b
  simp only [ta, tb, ob, w_u64, w_u32] at h0 h1 h2 h3 h4 h5 h6 h7 h8 h9 h10 h11
  try simp (disch := omega) only [Int.tmod_eq_emod_of_nonneg] at h0 h1 h2 h3 h4 h5 h6 h7 h8 h9 h10 h11
  omega
theorem exc11_14 (i : Nat → Int) (hh : Holds i [((.eq (.conv .u32 (.var 1 0 18446744073709551615)) (.ar .rem .u64 (.ar .or .u64 (.ar .rem .u64 (.var 2 0 18446744073709551615) (.lit 4294967296)) (.lit 18446744069414584320)) (.lit 4294967296))), false), ((.lt (.ar .rem .u64 (.var 2 0 18446744073709551615) (.lit 4294967296)) (.lit 2147483648)), false), ((.lt (.ar .rem .u64 (.var 1 0 18446744073709551615) (.lit 4294967296)) (.lit 2147483648)), true), ((.lt (.conv .u32 (.var 1 0 18446744073709551615)) (.conv .u32 (.var 2 0 18446744073709551615))), false), ((.lt (.var 0 0 255) (.lit 77)), false), ((.lt (.var 0 0 255) (.lit 76)), false), ((.lt (.var 0 0 255) (.lit 75)), false), ((.lt (.var 0 0 255) (.lit 72)), false), ((.lt (.var 0 0 255) (.lit 78)), true), ((.lt (.var 0 0 255) (.lit 89)), true), ((.lt (.var 0 0 255) (.lit 67)), false)]) : False := by
  have h0 := hh _ _ (.head _)
  have h1 := hh _ _ (.tail _ (.head _))
  have h2 := hh _ _ (.tail _ (.tail _ (.head _)))
  have h3 := hh _ _ (.tail _ (.tail _ (.tail _ (.head _))))
  have h4 := hh _ _ (.tail _ (.tail _ (.tail _ (.tail _ (.head _)))))
  have h5 := hh _ _ (.tail _ (.tail _ (.tail _ (.tail _ (.tail _ (.head _))))))
  have h6 := hh _ _ (.tail _ (.tail _ (.tail _ (.tail _ (.tail _ (.tail _ (.head _)))))))
  have h7 := hh _ _ (.tail _ (.tail _ (.tail _ (.tail _ (.tail _ (.tail _ (.tail _ (.head _))))))))
  have h8 := hh _ _ (.tail _ (.tail _ (.tail _ (.tail _ (.tail _ (.tail _ (.tail _ (.tail _ (.head _)))))))))
  have h9 := hh _ _ (.tail _ (.tail _ (.tail _ (.tail _ (.tail _ (.tail _ (.tail _ (.tail _ (.tail _ (.head _))))))))))
  have h10 := hh _ _ (.tail _ (.tail _ (.tail _ (.tail _ (.tail _ (.tail _ (.tail _ (.tail _ (.tail _ (.tail _ (.head _)))))))))))
  clear hh
  simp only [N.den, aRem, true_iff, Bool.false_eq_true, false_iff, bI_ne, ieq_iff, ilt_iff] at h0 h1 h2 h3 h4 h5 h6 h7 h8 h9 h10
  generalize hA0 : max 0 (min 18446744073709551615 (i 1)) = a at *
  generalize hB0 : max 0 (min 18446744073709551615 (i 2)) = b at *
  generalize max 0 (min 255 (i 0)) = c at *
  have ha : 0 ≤ a ∧ a ≤ 18446744073709551615 := by omega
  have hb : 0 ≤ b ∧ b ≤ 18446744073709551615 := by omega
  clear hA0 hB0
  have ta : a.tmod 4294967296 = a % 4294967296 := Int.tmod_eq_emod_of_nonneg ha.1
  have tb : b.tmod 4294967296 = b % 4294967296 := Int.tmod_eq_emod_of_nonneg hb.1
  have oa := or_hi (a % 4294967296) (by omega) (by omega)
  have ob := or_hi (b % 4294967296) (by omega) (by omega)
  have xa := xor_top (a % 4294967296) (by omega) (by omega)
  have xb := xor_top (b % 4294967296) (by omega) (by omega)
  have xa2 := xor_top (a % 4294967296 + 18446744069414584320) (by omega) (by omega)
  have xb2 := xor_top (b % 4294967296 + 18446744069414584320) (by omega) (by omega)
  have xa3 := xor_top a ha.1 ha.2
  have xb3 := xor_top b hb.1 hb.2
  have wa := w_i32 a
  have wb := w_i32 b
  have va := w_i64 a
  have vb := w_i64 b
  simp only [ta, tb, ob, w_u32] at h0 h1 h2 h3 h4 h5 h6 h7 h8 h9 h10
  try simp (disch := omega) only [Int.tmod_eq_emod_of_nonneg] at h0 h1 h2 h3 h4 h5 h6 h7 h8 h9 h10
  omega
theorem exc11_15 (i : Nat → Int) (hh : Holds i [((.eq (.conv .u64 (.conv .i32 (.var 1 0 18446744073709551615))) (.ar .rem .u64 (.var 1 0 18446744073709551615) (.lit 4294967296))), false), ((.lt (.ar .rem .u64 (.var 2 0 18446744073709551615) (.lit 4294967296)) (.ar .rem .u64 (.var 1 0 18446744073709551615) (.lit 4294967296))), true), ((.lt (.ar .rem .u64 (.var 2 0 18446744073709551615) (.lit 4294967296)) (.lit 2147483648)), true), ((.lt (.ar .rem .u64 (.var 1 0 18446744073709551615) (.lit 4294967296)) (.lit 2147483648)), true), ((.lt (.conv .u32 (.var 1 0 18446744073709551615)) (.conv .u32 (.var 2 0 18446744073709551615))), false), ((.lt (.var 0 0 255) (.lit 77)), false), ((.lt (.var 0 0 255) (.lit 76)), false), ((.lt (.var 0 0 255) (.lit 75)), false), ((.lt (.var 0 0 255) (.lit 72)), false), ((.lt (.var 0 0 255) (.lit 78)), true), ((.lt (.var 0 0 255) (.lit 89)), true), ((.lt (.var 0 0 255) (.lit 67)), false)]) : False := by
  have h0 := hh _ _ (.head _)
  have h1 := hh _ _ (.tail _ (.head _))
  have h2 := hh _ _ (.tail _ (.tail _ (.head _)))
  have h3 := hh _ _ (.tail _ (.tail _ (.tail _ (.head _))))
  have h4 := hh _ _ (.tail _ (.tail _ (.tail _ (.tail _ (.head _)))))
  have h5 := hh _ _ (.tail _ (.tail _ (.tail _ (.tail _ (.tail _ (.head _))))))
  have h6 := hh _ _ (.tail _ (.tail _ (.tail _ (.tail _ (.tail _ (.tail _ (.head _)))))))
  have h7 := hh _ _ (.tail _ (.tail _ (.tail _ (.tail _ (.tail _ (.tail _ (.tail _ (.head _))))))))
  have h8 := hh _ _ (.tail _ (.tail _ (.tail _ (.tail _ (.tail _ (.tail _ (.tail _ (.tail _ (.head _)))))))))
  have h9 := hh _ _ (.tail _ (.tail _ (.tail _ (.tail _ (.tail _ (.tail _ (.tail _ (.tail _ (.tail _ (.head _))))))))))
  have h10 := hh _ _ (.tail _ (.tail _ (.tail _ (.tail _ (.tail _ (.tail _ (.tail _ (.tail _ (.tail _ (.tail _ (.head _)))))))))))
  have h11 := hh _ _ (.tail _ (.tail _ (.tail _ (.tail _ (.tail _ (.tail _ (.tail _ (.tail _ (.tail _ (.tail _ (.tail _ (.head _))))))))))))
  clear hh
  simp only [N.den, aRem, true_iff, Bool.false_eq_true, false_iff, bI_ne, ieq_iff, ilt_iff] at h0 h1 h2 h3 h4 h5 h6 h7 h8 h9 h10 h11
  generalize hA0 : max 0 (min 18446744073709551615 (i 1)) = a at *
  generalize hB0 : max 0 (min 18446744073709551615 (i 2)) = b at *
  generalize max 0 (min 255 (i 0)) = c at *
  have ha : 0 ≤ a ∧ a ≤ 18446744073709551615 := by omega
  have hb : 0 ≤ b ∧ b ≤ 18446744073709551615 := by omega
  clear hA0 hB0
  have ta : a.tmod 4294967296 = a % 4294967296 := Int.tmod_eq_emod_of_nonneg ha.1
  have tb : b.tmod 4294967296 = b % 4294967296 := Int.tmod_eq_emod_of_nonneg hb.1
  have oa := or_hi (a % 4294967296) (by omega) (by omega)
  have ob := or_hi (b % 4294967296) (by omega) (by omega)
  have xa := xor_top (a % 4294967296) (by omega) (by omega)
  have xb := xor_top (b % 4294967296) (by omega) (by omega)
  have xa2 := xor_top (a % 4294967296 + 18446744069414584320) (by omega) (by omega)
  have xb2 := xor_top (b % 4294967296 + 18446744069414584320) (by omega) (by omega)
  have xa3 := xor_top a ha.1 ha.2
  have xb3 := xor_top b hb.1 hb.2
  have wa := w_i32 a
  have wb := w_i32 b
  have va := w_i64 a
  have vb := w_i64 b
  simp only [ta, tb, w_u64, w_u32] at h0 h1 h2 h3 h4 h5 h6 h7 h8 h9 h10 h11
  try simp (disch := omega) only [Int.tmod_eq_emod_of_nonneg] at h0 h1 h2 h3 h4 h5 h6 h7 h8 h9 h10 h11
  omega
theorem exc11_16 (i : Nat → Int) (hh : Holds i [((.eq (.conv .u64 (.conv .i32 (.var 1 0 18446744073709551615))) (.ar .rem .u64 (.var 1 0 18446744073709551615) (.lit 4294967296))), false), ((.eq (.conv .u32 (.var 1 0 18446744073709551615)) (.ar .rem .u64 (.ar .rem .u64 (.var 2 0 18446744073709551615) (.lit 4294967296)) (.lit 4294967296))), true), ((.lt (.ar .rem .u64 (.var 2 0 18446744073709551615) (.lit 4294967296)) (.ar .rem .u64 (.var 1 0 18446744073709551615) (.lit 4294967296))), false), ((.lt (.ar .rem .u64 (.var 2 0 18446744073709551615) (.lit 4294967296)) (.lit 2147483648)), true), ((.lt (.ar .rem .u64 (.var 1 0 18446744073709551615) (.lit 4294967296)) (.lit 2147483648)), true), ((.lt (.conv .u32 (.var 1 0 18446744073709551615)) (.conv .u32 (.var 2 0 18446744073709551615))), false), ((.lt (.var 0 0 255) (.lit 77)), false), ((.lt (.var 0 0 255) (.lit 76)), false), ((.lt (.var 0 0 255) (.lit 75)), false), ((.lt (.var 0 0 255) (.lit 72)), false), ((.lt (.var 0 0 255) (.lit 78)), true), ((.lt (.var 0 0 255) (.lit 89)), true), ((.lt (.var 0 0 255) (.lit 67)), false)]) : False := by
  have h0 := hh _ _ (.head _)
  have h1 := hh _ _ (.tail _ (.head _))
  have h2 := hh _ _ (.tail _ (.tail _ (.head _)))
  have h3 := hh _ _ (.tail _ (.tail _ (.tail _ (.head _))))
  have h4 := hh _ _ (.tail _ (.tail _ (.tail _ (.tail _ (.head _)))))
  have h5 := hh _ _ (.tail _ (.tail _ (.tail _ (.tail _ (.tail _ (.head _))))))
  have h6 := hh _ _ (.tail _ (.tail _ (.tail _ (.tail _ (.tail _ (.tail _ (.head _)))))))
  have h7 := hh _ _ (.tail _ (.tail _ (.tail _ (.tail _ (.tail _ (.tail _ (.tail _ (.head _))))))))
  have h8 := hh _ _ (.tail _ (.tail _ (.tail _ (.tail _ (.tail _ (.tail _ (.tail _ (.tail _ (.head _)))))))))
  have h9 := hh _ _ (.tail _ (.tail _ (.tail _ (.tail _ (.tail _ (.tail _ (.tail _ (.tail _ (.tail _ (.head _))))))))))
  have h10 := hh _ _ (.tail _ (.tail _ (.tail _ (.tail _ (.tail _ (.tail _ (.tail _ (.tail _ (.tail _ (.tail _ (.head _)))))))))))
  have h11 := hh _ _ (.tail _ (.tail _ (.tail _ (.tail _ (.tail _ (.tail _ (.tail _ (.tail _ (.tail _ (.tail _ (.tail _ (.head _))))))))))))
  have h12 := hh _ _ (.tail _ (.tail _ (.tail _ (.tail _ (.tail _ (.tail _ (.tail _ (.tail _ (.tail _ (.tail _ (.tail _ (.tail _ (.head _)))))))))))))
  clear hh
  simp only [N.den, aRem, true_iff, Bool.false_eq_true, false_iff, bI_ne, ieq_iff, ilt_iff] at h0 h1 h2 h3 h4 h5 h6 h7 h8 h9 h10 h11 h12
  generalize hA0 : max 0 (min 18446744073709551615 (i 1)) = a at *
  generalize hB0 : max 0 (min 18446744073709551615 (i 2)) = b at *
  generalize max 0 (min 255 (i 0)) = c at *
  have ha : 0 ≤ a ∧ a ≤ 18446744073709551615 := by omega
  have hb : 0 ≤ b ∧ b ≤ 18446744073709551615 := by omega
  clear hA0 hB0
  have ta : a.tmod 4294967296 = a % 4294967296 := Int.tmod_eq_emod_of_nonneg ha.1
  have tb : b.tmod 4294967296 = b % 4294967296 := Int.tmod_eq_emod_of_nonneg hb.1
  have oa := or_hi (a % 4294967296) (by omega) (by omega)
  have ob := or_hi (b % 4294967296) (by omega) (by omega)
  have xa := xor_top (a % 4294967296) (by omega) (by omega)
  have xb := xor_top (b % 4294967296) (by omega) (by omega)
  have xa2 := xor_top (a % 4294967296 + 18446744069414584320) (by omega) (by omega)
  have xb2 := xor_top (b % 4294967296 + 18446744069414584320) (by omega) (by omega)
  have xa3 := xor_top a ha.1 ha.2
  have xb3 := xor_top b hb.1 hb.2
  have wa := w_i32 a
  have wb := w_i32 b
  have va := w_i64 a
  have vb := w_i64 b
  simp only [ta, tb, w_u64, w_u32] at h0 h1 h2 h3 h4 h5 h6 h7 h8 h9 h10 h11 h12
  try simp (disch := omega) only [Int.tmod_eq_emod_of_nonneg] at h0 h1 h2 h3 h4 h5 h6 h7 h8 h9 h10 h11 h12
  omega
theorem exc11_17 (i : Nat → Int) (hh : Holds i [((.eq (.conv .u32 (.var 1 0 18446744073709551615)) (.ar .rem .u64 (.ar .rem .u64 (.var 2 0 18446744073709551615) (.lit 4294967296)) (.lit 4294967296))), false), ((.lt (.ar .rem .u64 (.var 2 0 18446744073709551615) (.lit 4294967296)) (.ar .rem .u64 (.var 1 0 18446744073709551615) (.lit 4294967296))), false), ((.lt (.ar .rem .u64 (.var 2 0 18446744073709551615) (.lit 4294967296)) (.lit 2147483648)), true), ((.lt (.ar .rem .u64 (.var 1 0 18446744073709551615) (.lit 4294967296)) (.lit 2147483648)), true), ((.lt (.conv .u32 (.var 1 0 18446744073709551615)) (.conv .u32 (.var 2 0 18446744073709551615))), false), ((.lt (.var 0 0 255) (.lit 77)), false), ((.lt (.var 0 0 255) (.lit 76)), false), ((.lt (.var 0 0 255) (.lit 75)), false), ((.lt (.var 0 0 255) (.lit 72)), false), ((.lt (.var 0 0 255) (.lit 78)), true), ((.lt (.var 0 0 255) (.lit 89)), true), ((.lt (.var 0 0 255) (.lit 67)), false)]) : False := by
  have h0 := hh _ _ (.head _)
  have h1 := hh _ _ (.tail _ (.head _))
  have h2 := hh _ _ (.tail _ (.tail _ (.head _)))
  have h3 := hh _ _ (.tail _ (.tail _ (.tail _ (.head _))))
  have h4 := hh _ _ (.tail _ (.tail _ (.tail _ (.tail _ (.head _)))))
  have h5 := hh _ _ (.tail _ (.tail _ (.tail _ (.tail _ (.tail _ (.head _))))))
  have h6 := hh _ _ (.tail _ (.tail _ (.tail _ (.tail _ (.tail _ (.tail _ (.head _)))))))
  have h7 := hh _ _ (.tail _ (.tail _ (.tail _ (.tail _ (.tail _ (.tail _ (.tail _ (.head _))))))))
  have h8 := hh _ _ (.tail _ (.tail _ (.tail _ (.tail _ (.tail _ (.tail _ (.tail _ (.tail _ (.head _)))))))))
  have h9 := hh _ _ (.tail _ (.tail _ (.tail _ (.tail _ (.tail _ (.tail _ (.tail _ (.tail _ (.tail _ (.head _))))))))))
  have h10 := hh _ _ (.tail _ (.tail _ (.tail _ (.tail _ (.tail _ (.tail _ (.tail _ (.tail _ (.tail _ (.tail _ (.head _)))))))))))
  have h11 := hh _ _ (.tail _ (.tail _ (.tail _ (.tail _ (.tail _ (.tail _ (.tail _ (.tail _ (.tail _ (.tail _ (.tail _ (.head _))))))))))))
  clear hh
  simp only [N.den, aRem, true_iff, Bool.false_eq_true, false_iff, bI_ne, ieq_iff, ilt_iff] at h0 h1 h2 h3 h4 h5 h6 h7 h8 h9 h10 h11
  generalize hA0 : max 0 (min 18446744073709551615 (i 1)) = a at *
  generalize hB0 : max 0 (min 18446744073709551615 (i 2)) = b at *
  generalize max 0 (min 255 (i 0)) = c at *
  have ha : 0 ≤ a ∧ a ≤ 18446744073709551615 := by omega
  have hb : 0 ≤ b ∧ b ≤ 18446744073709551615 := by omega
  clear hA0 hB0
  have ta : a.tmod 4294967296 = a % 4294967296 := Int.tmod_eq_emod_of_nonneg ha.1
  have tb : b.tmod 4294967296 = b % 4294967296 := Int.tmod_eq_emod_of_nonneg hb.1
  have oa := or_hi (a % 4294967296) (by omega) (by omega)
  have ob := or_hi (b % 4294967296) (by omega) (by omega)
  have xa := xor_top (a % 4294967296) (by omega) (by omega)
  have xb := xor_top (b % 4294967296) (by omega) (by omega)
  have xa2 := xor_top (a % 4294967296 + 18446744069414584320) (by omega) (by omega)
  have xb2 := xor_top (b % 4294967296 + 18446744069414584320) (by omega) (by omega)
  have xa3 := xor_top a ha.1 ha.2
  have xb3 := xor_top b hb.1 hb.2
  have wa := w_i32 a
  have wb := w_i32 b
  have va := w_i64 a
  have vb := w_i64 b
  simp only [ta, tb, w_u32] at h0 h1 h2 h3 h4 h5 h6 h7 h8 h9 h10 h11
  try simp (disch := omega) only [Int.tmod_eq_emod_of_nonneg] at h0 h1 h2 h3 h4 h5 h6 h7 h8 h9 h10 h11
  omega
theorem exc11_no : ∀ q ∈ exc11, ∀ i, ¬ Holds i q :=
  List.forall_mem_cons.2 ⟨exc11_0, List.forall_mem_cons.2 ⟨exc11_1, List.forall_mem_cons.2 ⟨exc11_2, List.forall_mem_cons.2 ⟨exc11_3, List.forall_mem_cons.2 ⟨exc11_4, List.forall_mem_cons.2 ⟨exc11_5, List.forall_mem_cons.2 ⟨exc11_6, List.forall_mem_cons.2 ⟨exc11_7, List.forall_mem_cons.2 ⟨exc11_8, List.forall_mem_cons.2 ⟨exc11_9, List.forall_mem_cons.2 ⟨exc11_10, List.forall_mem_cons.2 ⟨exc11_11, List.forall_mem_cons.2 ⟨exc11_12, List.forall_mem_cons.2 ⟨exc11_13, List.forall_mem_cons.2 ⟨exc11_14, List.forall_mem_cons.2 ⟨exc11_15, List.forall_mem_cons.2 ⟨exc11_16, List.forall_mem_cons.2 ⟨exc11_17, (fun p h => by cases h)⟩⟩⟩⟩⟩⟩⟩⟩⟩⟩⟩⟩⟩⟩⟩⟩⟩⟩
theorem exc12_no : ∀ q ∈ exc12, ∀ i, ¬ Holds i q :=
  fun q hq => by cases hq
theorem exc13_no : ∀ q ∈ exc13, ∀ i, ¬ Holds i q :=
  fun q hq => by cases hq
theorem exc14_no : ∀ q ∈ exc14, ∀ i, ¬ Holds i q :=
  fun q hq => by cases hq
theorem exc15_no : ∀ q ∈ exc15, ∀ i, ¬ Holds i q :=
  fun q hq => by cases hq
theorem exc16_no : ∀ q ∈ exc16, ∀ i, ¬ Holds i q :=
  fun q hq => by cases hq
theorem exc17_no : ∀ q ∈ exc17, ∀ i, ¬ Holds i q :=
  fun q hq => by cases hq
theorem exc18_no : ∀ q ∈ exc18, ∀ i, ¬ Holds i q :=
  fun q hq => by cases hq
theorem exc19_0 (i : Nat → Int) (hh : Holds i [((.lt (.ar .xor .u64 (.var 1 0 18446744073709551615) (.lit 9223372036854775808)) (.ar .xor .u64 (.var 2 0 18446744073709551615) (.lit 9223372036854775808))), true), ((.lt (.conv .i64 (.var 2 0 18446744073709551615)) (.conv .i64 (.var 1 0 18446744073709551615))), true), ((.lt (.var 0 0 255) (.lit 85)), false), ((.lt (.var 0 0 255) (.lit 84)), false), ((.lt (.var 0 0 255) (.lit 86)), true), ((.lt (.var 0 0 255) (.lit 83)), false), ((.lt (.var 0 0 255) (.lit 78)), false), ((.lt (.var 0 0 255) (.lit 89)), true), ((.lt (.var 0 0 255) (.lit 67)), false)]) : False := by
  have h0 := hh _ _ (.head _)
  have h1 := hh _ _ (.tail _ (.head _))
  have h2 := hh _ _ (.tail _ (.tail _ (.head _)))
  have h3 := hh _ _ (.tail _ (.tail _ (.tail _ (.head _))))
  have h4 := hh _ _ (.tail _ (.tail _ (.tail _ (.tail _ (.head _)))))
  have h5 := hh _ _ (.tail _ (.tail _ (.tail _ (.tail _ (.tail _ (.head _))))))
  have h6 := hh _ _ (.tail _ (.tail _ (.tail _ (.tail _ (.tail _ (.tail _ (.head _)))))))
  have h7 := hh _ _ (.tail _ (.tail _ (.tail _ (.tail _ (.tail _ (.tail _ (.tail _ (.head _))))))))
  have h8 := hh _ _ (.tail _ (.tail _ (.tail _ (.tail _ (.tail _ (.tail _ (.tail _ (.tail _ (.head _)))))))))
  clear hh
  simp only [N.den, true_iff, Bool.false_eq_true, false_iff, bI_ne, ilt_iff] at h0 h1 h2 h3 h4 h5 h6 h7 h8
  generalize hA0 : max 0 (min 18446744073709551615 (i 1)) = a at *
  generalize hB0 : max 0 (min 18446744073709551615 (i 2)) = b at *
  generalize max 0 (min 255 (i 0)) = c at *
  have ha : 0 ≤ a ∧ a ≤ 18446744073709551615 := by omega
  have hb : 0 ≤ b ∧ b ≤ 18446744073709551615 := by omega
  clear hA0 hB0
  have ta : a.tmod 4294967296 = a % 4294967296 := Int.tmod_eq_emod_of_nonneg ha.1
  have tb : b.tmod 4294967296 = b % 4294967296 := Int.tmod_eq_emod_of_nonneg hb.1
  have oa := or_hi (a % 4294967296) (by omega) (by omega)
  have ob := or_hi (b % 4294967296) (by omega) (by omega)
  have xa := xor_top (a % 4294967296) (by omega) (by omega)
  have xb := xor_top (b % 4294967296) (by omega) (by omega)
  have xa2 := xor_top (a % 4294967296 + 18446744069414584320) (by omega) (by omega)
  have xb2 := xor_top (b % 4294967296 + 18446744069414584320) (by omega) (by omega)
  have xa3 := xor_top a ha.1 ha.2
  have xb3 := xor_top b hb.1 hb.2
  have wa := w_i32 a
  have wb := w_i32 b
  have va := w_i64 a
  have vb := w_i64 b
  simp only [xa3, xb3] at h0 h1 h2 h3 h4 h5 h6 h7 h8
  try simp (disch := omega) only [Int.tmod_eq_emod_of_nonneg] at h0 h1 h2 h3 h4 h5 h6 h7 h8
  omega
theorem exc19_1 (i : Nat → Int) (hh : Holds i [((.eq (.var 1 0 18446744073709551615) (.var 2 0 18446744073709551615)), false), ((.lt (.ar .xor .u64 (.var 1 0 18446744073709551615) (.lit 9223372036854775808)) (.ar .xor .u64 (.var 2 0 18446744073709551615) (.lit 9223372036854775808))), false), ((.lt (.conv .i64 (.var 2 0 18446744073709551615)) (.conv .i64 (.var 1 0 18446744073709551615))), false), ((.lt (.var 0 0 255) (.lit 85)), false), ((.lt (.var 0 0 255) (.lit 84)), false), ((.lt (.var 0 0 255) (.lit 86)), true), ((.lt (.var 0 0 255) (.lit 83)), false), ((.lt (.var 0 0 255) (.lit 78)), false), ((.lt (.var 0 0 255) (.lit 89)), true), ((.lt (.var 0 0 255) (.lit 67)), false)]) : False := by
  have h0 := hh _ _ (.head _)
  have h1 := hh _ _ (.tail _ (.head _))
  have h2 := hh _ _ (.tail _ (.tail _ (.head _)))
  have h3 := hh _ _ (.tail _ (.tail _ (.tail _ (.head _))))
  have h4 := hh _ _ (.tail _ (.tail _ (.tail _ (.tail _ (.head _)))))
  have h5 := hh _ _ (.tail _ (.tail _ (.tail _ (.tail _ (.tail _ (.head _))))))
  have h6 := hh _ _ (.tail _ (.tail _ (.tail _ (.tail _ (.tail _ (.tail _ (.head _)))))))
  have h7 := hh _ _ (.tail _ (.tail _ (.tail _ (.tail _ (.tail _ (.tail _ (.tail _ (.head _))))))))
  have h8 := hh _ _ (.tail _ (.tail _ (.tail _ (.tail _ (.tail _ (.tail _ (.tail _ (.tail _ (.head _)))))))))
  have h9 := hh _ _ (.tail _ (.tail _ (.tail _ (.tail _ (.tail _ (.tail _ (.tail _ (.tail _ (.tail _ (.head _))))))))))
  clear hh
  simp only [N.den, true_iff, Bool.false_eq_true, false_iff, bI_ne, ieq_iff, ilt_iff] at h0 h1 h2 h3 h4 h5 h6 h7 h8 h9
  generalize hA0 : max 0 (min 18446744073709551615 (i 1)) = a at *
  generalize hB0 : max 0 (min 18446744073709551615 (i 2)) = b at *
  generalize max 0 (min 255 (i 0)) = c at *
  have ha : 0 ≤ a ∧ a ≤ 18446744073709551615 := by omega
  have hb : 0 ≤ b ∧ b ≤ 18446744073709551615 := by omega
  clear hA0 hB0
  have ta : a.tmod 4294967296 = a % 4294967296 := Int.tmod_eq_emod_of_nonneg ha.1
  have tb : b.tmod 4294967296 = b % 4294967296 := Int.tmod_eq_emod_of_nonneg hb.1
  have oa := or_hi (a % 4294967296) (by omega) (by omega)
  have ob := or_hi (b % 4294967296) (by omega) (by omega)
  have xa := xor_top (a % 4294967296) (by omega) (by omega)
  have xb := xor_top (b % 4294967296) (by omega) (by omega)
  have xa2 := xor_top (a % 4294967296 + 18446744069414584320) (by omega) (by omega)
  have xb2 := xor_top (b % 4294967296 + 18446744069414584320) (by omega) (by omega)
  have xa3 := xor_top a ha.1 ha.2
  have xb3 := xor_top b hb.1 hb.2
  have wa := w_i32 a
  have wb := w_i32 b
  have va := w_i64 a
  have vb := w_i64 b
  simp only [xa3, xb3] at h0 h1 h2 h3 h4 h5 h6 h7 h8 h9
  try simp (disch := omega) only [Int.tmod_eq_emod_of_nonneg] at h0 h1 h2 h3 h4 h5 h6 h7 h8 h9
  omega
theorem exc19_no : ∀ q ∈ exc19, ∀ i, ¬ Holds i q :=
  List.forall_mem_cons.2 ⟨exc19_0, List.forall_mem_cons.2 ⟨exc19_1, (fun p h => by cases h)⟩⟩
theorem exc20_0 (i : Nat → Int) (hh : Holds i [((.lt (.ar .xor .u64 (.var 2 0 18446744073709551615) (.lit 9223372036854775808)) (.ar .xor .u64 (.var 1 0 18446744073709551615) (.lit 9223372036854775808))), true), ((.lt (.conv .i64 (.var 1 0 18446744073709551615)) (.conv .i64 (.var 2 0 18446744073709551615))), true), ((.lt (.var 0 0 255) (.lit 87)), true), ((.lt (.var 0 0 255) (.lit 86)), false), ((.lt (.var 0 0 255) (.lit 83)), false), ((.lt (.var 0 0 255) (.lit 78)), false), ((.lt (.var 0 0 255) (.lit 89)), true), ((.lt (.var 0 0 255) (.lit 67)), false)]) : False := by
  have h0 := hh _ _ (.head _)
  have h1 := hh _ _ (.tail _ (.head _))
  have h2 := hh _ _ (.tail _ (.tail _ (.head _)))
  have h3 := hh _ _ (.tail _ (.tail _ (.tail _ (.head _))))
  have h4 := hh _ _ (.tail _ (.tail _ (.tail _ (.tail _ (.head _)))))
  have h5 := hh _ _ (.tail _ (.tail _ (.tail _ (.tail _ (.tail _ (.head _))))))
  have h6 := hh _ _ (.tail _ (.tail _ (.tail _ (.tail _ (.tail _ (.tail _ (.head _)))))))
  have h7 := hh _ _ (.tail _ (.tail _ (.tail _ (.tail _ (.tail _ (.tail _ (.tail _ (.head _))))))))
  clear hh
  simp only [N.den, true_iff, Bool.false_eq_true, false_iff, bI_ne, ilt_iff] at h0 h1 h2 h3 h4 h5 h6 h7
  generalize hA0 : max 0 (min 18446744073709551615 (i 1)) = a at *
  generalize hB0 : max 0 (min 18446744073709551615 (i 2)) = b at *
  generalize max 0 (min 255 (i 0)) = c at *
  have ha : 0 ≤ a ∧ a ≤ 18446744073709551615 := by omega
  have hb : 0 ≤ b ∧ b ≤ 18446744073709551615 := by omega
  clear hA0 hB0
  have ta : a.tmod 4294967296 = a % 4294967296 := Int.tmod_eq_emod_of_nonneg ha.1
  have tb : b.tmod 4294967296 = b % 4294967296 := Int.tmod_eq_emod_of_nonneg hb.1
  have oa := or_hi (a % 4294967296) (by omega) (by omega)
  have ob := or_hi (b % 4294967296) (by omega) (by omega)
  have xa := xor_top (a % 4294967296) (by omega) (by omega)
  have xb := xor_top (b % 4294967296) (by omega) (by omega)
  have xa2 := xor_top (a % 4294967296 + 18446744069414584320) (by omega) (by omega)
  have xb2 := xor_top (b % 4294967296 + 18446744069414584320) (by omega) (by omega)
  have xa3 := xor_top a ha.1 ha.2
  have xb3 := xor_top b hb.1 hb.2
  have wa := w_i32 a
  have wb := w_i32 b
  have va := w_i64 a
  have vb := w_i64 b
  simp only [xa3, xb3] at h0 h1 h2 h3 h4 h5 h6 h7
  try simp (disch := omega) only [Int.tmod_eq_emod_of_nonneg] at h0 h1 h2 h3 h4 h5 h6 h7
  omega
theorem exc20_1 (i : Nat → Int) (hh : Holds i [((.eq (.var 1 0 18446744073709551615) (.var 2 0 18446744073709551615)), false), ((.lt (.ar .xor .u64 (.var 2 0 18446744073709551615) (.lit 9223372036854775808)) (.ar .xor .u64 (.var 1 0 18446744073709551615) (.lit 9223372036854775808))), false), ((.lt (.conv .i64 (.var 1 0 18446744073709551615)) (.conv .i64 (.var 2 0 18446744073709551615))), false), ((.lt (.var 0 0 255) (.lit 87)), true), ((.lt (.var 0 0 255) (.lit 86)), false), ((.lt (.var 0 0 255) (.lit 83)), false), ((.lt (.var 0 0 255) (.lit 78)), false), ((.lt (.var 0 0 255) (.lit 89)), true), ((.lt (.var 0 0 255) (.lit 67)), false)]) : False := by
  have h0 := hh _ _ (.head _)
  have h1 := hh _ _ (.tail _ (.head _))
  have h2 := hh _ _ (.tail _ (.tail _ (.head _)))
  have h3 := hh _ _ (.tail _ (.tail _ (.tail _ (.head _))))
  have h4 := hh _ _ (.tail _ (.tail _ (.tail _ (.tail _ (.head _)))))
  have h5 := hh _ _ (.tail _ (.tail _ (.tail _ (.tail _ (.tail _ (.head _))))))
  have h6 := hh _ _ (.tail _ (.tail _ (.tail _ (.tail _ (.tail _ (.tail _ (.head _)))))))
  have h7 := hh _ _ (.tail _ (.tail _ (.tail _ (.tail _ (.tail _ (.tail _ (.tail _ (.head _))))))))
  have h8 := hh _ _ (.tail _ (.tail _ (.tail _ (.tail _ (.tail _ (.tail _ (.tail _ (.tail _ (.head _)))))))))
  clear hh
  simp only [N.den, true_iff, Bool.false_eq_true, false_iff, bI_ne, ieq_iff, ilt_iff] at h0 h1 h2 h3 h4 h5 h6 h7 h8
  generalize hA0 : max 0 (min 18446744073709551615 (i 1)) = a at *
  generalize hB0 : max 0 (min 18446744073709551615 (i 2)) = b at *
  generalize max 0 (min 255 (i 0)) = c at *
  have ha : 0 ≤ a ∧ a ≤ 18446744073709551615 := by omega
  have hb : 0 ≤ b ∧ b ≤ 18446744073709551615 := by omega
  clear hA0 hB0
  have ta : a.tmod 4294967296 = a % 4294967296 := Int.tmod_eq_emod_of_nonneg ha.1
  have tb : b.tmod 4294967296 = b % 4294967296 := Int.tmod_eq_emod_of_nonneg hb.1
  have oa := or_hi (a % 4294967296) (by omega) (by omega)
  have ob := or_hi (b % 4294967296) (by omega) (by omega)
  have xa := xor_top (a % 4294967296) (by omega) (by omega)
  have xb := xor_top (b % 4294967296) (by omega) (by omega)
  have xa2 := xor_top (a % 4294967296 + 18446744069414584320) (by omega) (by omega)
  have xb2 := xor_top (b % 4294967296 + 18446744069414584320) (by omega) (by omega)
  have xa3 := xor_top a ha.1 ha.2
  have xb3 := xor_top b hb.1 hb.2
  have wa := w_i32 a
  have wb := w_i32 b
  have va := w_i64 a
  have vb := w_i64 b
  simp only [xa3, xb3] at h0 h1 h2 h3 h4 h5 h6 h7 h8
  try simp (disch := omega) only [Int.tmod_eq_emod_of_nonneg] at h0 h1 h2 h3 h4 h5 h6 h7 h8
  omega
theorem exc20_no : ∀ q ∈ exc20, ∀ i, ¬ Holds i q :=
  List.forall_mem_cons.2 ⟨exc20_0, List.forall_mem_cons.2 ⟨exc20_1, (fun p h => by cases h)⟩⟩
theorem exc21_no : ∀ q ∈ exc21, ∀ i, ¬ Holds i q :=
  fun q hq => by cases hq
theorem exc22_no : ∀ q ∈ exc22, ∀ i, ¬ Holds i q :=
  fun q hq => by cases hq
theorem exc23_no : ∀ q ∈ exc23, ∀ i, ¬ Holds i q :=
  fun q hq => by cases hq
end Go.Proofs.YtaebmaahbkgcoaaGreat.Sx
