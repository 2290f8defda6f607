/- AluDoes: what is excused can not be, way by way. -/
import Derived.Test.YtgfhjldfhcoagaaEAluDoesA
import Derived.Test.YtgfhjldfhcoagaaUAluDoesP0
import Derived.Test.YtgfhjldfhcoagaaUAluDoesP1
import Derived.Test.YtgfhjldfhcoagaaUAluDoesP2
import Derived.Test.YtgfhjldfhcoagaaUAluDoesP3
import Derived.Test.YtgfhjldfhcoagaaUAluDoesP4
import Derived.Test.YtgfhjldfhcoagaaUAluDoesP5
set_option linter.unusedVariables false
set_option linter.unusedSimpArgs false
namespace Go.Proofs.Ytgfhjldfhcoagaa.Sx
open Go
set_option maxRecDepth 100000

theorem exc0_no : ∀ q ∈ exc0, ∀ i, ¬ Holds i q :=
  (fun p h => by cases h)

theorem exc1_no : ∀ q ∈ exc1, ∀ i, ¬ Holds i q :=
  (fun p h => by cases h)

theorem exc2_0_no (i : Nat → Int) : ¬ Holds i [((.lt (.ar .xor .u64 (.var 1 0 18446744073709551615) (.lit 9223372036854775808)) (.ar .xor .u64 (.var 2 0 18446744073709551615) (.lit 9223372036854775808))), false), ((.lt (.conv .i64 (.var 1 0 18446744073709551615)) (.conv .i64 (.var 2 0 18446744073709551615))), true), ((.lt (.var 2 0 18446744073709551615) (.lit 9223372036854775808)), true), ((.lt (.var 1 0 18446744073709551615) (.lit 9223372036854775808)), true), ((.eq (.var 0 0 255) (.lit 23)), true), ((.eq (.var 0 0 255) (.lit 22)), false), ((.lt (.var 0 0 255) (.lit 36)), true), ((.lt (.var 0 0 255) (.lit 22)), false)] := by
  intro hh
  obtain ⟨a, ea, ha⟩ := var_nat i 1
  obtain ⟨b, eb, hb⟩ := var_nat i 2
  have h0 := hh _ _ (.head _)
  have h1 := hh _ _ (.tail _ (.head _))
  have h2 := hh _ _ (.tail _ (.tail _ (.head _)))
  have h3 := hh _ _ (.tail _ (.tail _ (.tail _ (.head _))))
  clear hh
  simp only [den_ar, den_conv, den_eq, den_lt, den_lit, ea, eb, true_iff, Bool.false_eq_true, false_iff, bI_ne, ieq_iff, ilt_iff, Classical.not_not, ne_eq] at h0 h1 h2 h3
  simp only [i64_sg a ha, i64_sg b hb, xor_top a ha, xor_top b hb, sg] at h0 h1 h2 h3
  omega

theorem exc2_1_no (i : Nat → Int) : ¬ Holds i [((.lt (.ar .xor .u64 (.var 1 0 18446744073709551615) (.lit 9223372036854775808)) (.ar .xor .u64 (.var 2 0 18446744073709551615) (.lit 9223372036854775808))), true), ((.lt (.conv .i64 (.var 1 0 18446744073709551615)) (.conv .i64 (.var 2 0 18446744073709551615))), false), ((.lt (.var 2 0 18446744073709551615) (.lit 9223372036854775808)), true), ((.lt (.var 1 0 18446744073709551615) (.lit 9223372036854775808)), true), ((.eq (.var 0 0 255) (.lit 23)), true), ((.eq (.var 0 0 255) (.lit 22)), false), ((.lt (.var 0 0 255) (.lit 36)), true), ((.lt (.var 0 0 255) (.lit 22)), false)] := by
  intro hh
  obtain ⟨a, ea, ha⟩ := var_nat i 1
  obtain ⟨b, eb, hb⟩ := var_nat i 2
  have h0 := hh _ _ (.head _)
  have h1 := hh _ _ (.tail _ (.head _))
  have h2 := hh _ _ (.tail _ (.tail _ (.head _)))
  have h3 := hh _ _ (.tail _ (.tail _ (.tail _ (.head _))))
  clear hh
  simp only [den_ar, den_conv, den_eq, den_lt, den_lit, ea, eb, true_iff, Bool.false_eq_true, false_iff, bI_ne, ieq_iff, ilt_iff, Classical.not_not, ne_eq] at h0 h1 h2 h3
  simp only [i64_sg a ha, i64_sg b hb, xor_top a ha, xor_top b hb, sg] at h0 h1 h2 h3
  omega

theorem exc2_no : ∀ q ∈ exc2, ∀ i, ¬ Holds i q :=
  List.forall_mem_cons.2 ⟨exc2_0_no, List.forall_mem_cons.2 ⟨exc2_1_no, (fun p h => by cases h)⟩⟩

theorem exc3_0_no (i : Nat → Int) : ¬ Holds i [((.lt (.ar .xor .u64 (.var 1 0 18446744073709551615) (.lit 9223372036854775808)) (.ar .xor .u64 (.var 2 0 18446744073709551615) (.lit 9223372036854775808))), false), ((.lt (.conv .i64 (.var 1 0 18446744073709551615)) (.conv .i64 (.var 2 0 18446744073709551615))), true), ((.lt (.var 2 0 18446744073709551615) (.lit 9223372036854775808)), false), ((.lt (.var 1 0 18446744073709551615) (.lit 9223372036854775808)), true), ((.eq (.var 0 0 255) (.lit 23)), true), ((.eq (.var 0 0 255) (.lit 22)), false), ((.lt (.var 0 0 255) (.lit 36)), true), ((.lt (.var 0 0 255) (.lit 22)), false)] := by
  intro hh
  obtain ⟨a, ea, ha⟩ := var_nat i 1
  obtain ⟨b, eb, hb⟩ := var_nat i 2
  have h0 := hh _ _ (.head _)
  have h1 := hh _ _ (.tail _ (.head _))
  have h2 := hh _ _ (.tail _ (.tail _ (.head _)))
  have h3 := hh _ _ (.tail _ (.tail _ (.tail _ (.head _))))
  clear hh
  simp only [den_ar, den_conv, den_eq, den_lt, den_lit, ea, eb, true_iff, Bool.false_eq_true, false_iff, bI_ne, ieq_iff, ilt_iff, Classical.not_not, ne_eq] at h0 h1 h2 h3
  simp only [i64_sg a ha, i64_sg b hb, xor_top a ha, xor_top b hb, sg] at h0 h1 h2 h3
  omega

theorem exc3_1_no (i : Nat → Int) : ¬ Holds i [((.lt (.ar .xor .u64 (.var 1 0 18446744073709551615) (.lit 9223372036854775808)) (.ar .xor .u64 (.var 2 0 18446744073709551615) (.lit 9223372036854775808))), true), ((.lt (.conv .i64 (.var 1 0 18446744073709551615)) (.conv .i64 (.var 2 0 18446744073709551615))), false), ((.lt (.var 2 0 18446744073709551615) (.lit 9223372036854775808)), false), ((.lt (.var 1 0 18446744073709551615) (.lit 9223372036854775808)), true), ((.eq (.var 0 0 255) (.lit 23)), true), ((.eq (.var 0 0 255) (.lit 22)), false), ((.lt (.var 0 0 255) (.lit 36)), true), ((.lt (.var 0 0 255) (.lit 22)), false)] := by
  intro hh
  obtain ⟨a, ea, ha⟩ := var_nat i 1
  obtain ⟨b, eb, hb⟩ := var_nat i 2
  have h0 := hh _ _ (.head _)
  have h1 := hh _ _ (.tail _ (.head _))
  have h2 := hh _ _ (.tail _ (.tail _ (.head _)))
  have h3 := hh _ _ (.tail _ (.tail _ (.tail _ (.head _))))
  clear hh
  simp only [den_ar, den_conv, den_eq, den_lt, den_lit, ea, eb, true_iff, Bool.false_eq_true, false_iff, bI_ne, ieq_iff, ilt_iff, Classical.not_not, ne_eq] at h0 h1 h2 h3
  simp only [i64_sg a ha, i64_sg b hb, xor_top a ha, xor_top b hb, sg] at h0 h1 h2 h3
  omega

theorem exc3_no : ∀ q ∈ exc3, ∀ i, ¬ Holds i q :=
  List.forall_mem_cons.2 ⟨exc3_0_no, List.forall_mem_cons.2 ⟨exc3_1_no, (fun p h => by cases h)⟩⟩

theorem exc4_0_no (i : Nat → Int) : ¬ Holds i [((.lt (.ar .xor .u64 (.var 1 0 18446744073709551615) (.lit 9223372036854775808)) (.ar .xor .u64 (.var 2 0 18446744073709551615) (.lit 9223372036854775808))), false), ((.lt (.conv .i64 (.var 1 0 18446744073709551615)) (.conv .i64 (.var 2 0 18446744073709551615))), true), ((.lt (.var 2 0 18446744073709551615) (.lit 9223372036854775808)), true), ((.lt (.var 1 0 18446744073709551615) (.lit 9223372036854775808)), false), ((.eq (.var 0 0 255) (.lit 23)), true), ((.eq (.var 0 0 255) (.lit 22)), false), ((.lt (.var 0 0 255) (.lit 36)), true), ((.lt (.var 0 0 255) (.lit 22)), false)] := by
  intro hh
  obtain ⟨a, ea, ha⟩ := var_nat i 1
  obtain ⟨b, eb, hb⟩ := var_nat i 2
  have h0 := hh _ _ (.head _)
  have h1 := hh _ _ (.tail _ (.head _))
  have h2 := hh _ _ (.tail _ (.tail _ (.head _)))
  have h3 := hh _ _ (.tail _ (.tail _ (.tail _ (.head _))))
  clear hh
  simp only [den_ar, den_conv, den_eq, den_lt, den_lit, ea, eb, true_iff, Bool.false_eq_true, false_iff, bI_ne, ieq_iff, ilt_iff, Classical.not_not, ne_eq] at h0 h1 h2 h3
  simp only [i64_sg a ha, i64_sg b hb, xor_top a ha, xor_top b hb, sg] at h0 h1 h2 h3
  omega

theorem exc4_1_no (i : Nat → Int) : ¬ Holds i [((.lt (.ar .xor .u64 (.var 1 0 18446744073709551615) (.lit 9223372036854775808)) (.ar .xor .u64 (.var 2 0 18446744073709551615) (.lit 9223372036854775808))), true), ((.lt (.conv .i64 (.var 1 0 18446744073709551615)) (.conv .i64 (.var 2 0 18446744073709551615))), false), ((.lt (.var 2 0 18446744073709551615) (.lit 9223372036854775808)), true), ((.lt (.var 1 0 18446744073709551615) (.lit 9223372036854775808)), false), ((.eq (.var 0 0 255) (.lit 23)), true), ((.eq (.var 0 0 255) (.lit 22)), false), ((.lt (.var 0 0 255) (.lit 36)), true), ((.lt (.var 0 0 255) (.lit 22)), false)] := by
  intro hh
  obtain ⟨a, ea, ha⟩ := var_nat i 1
  obtain ⟨b, eb, hb⟩ := var_nat i 2
  have h0 := hh _ _ (.head _)
  have h1 := hh _ _ (.tail _ (.head _))
  have h2 := hh _ _ (.tail _ (.tail _ (.head _)))
  have h3 := hh _ _ (.tail _ (.tail _ (.tail _ (.head _))))
  clear hh
  simp only [den_ar, den_conv, den_eq, den_lt, den_lit, ea, eb, true_iff, Bool.false_eq_true, false_iff, bI_ne, ieq_iff, ilt_iff, Classical.not_not, ne_eq] at h0 h1 h2 h3
  simp only [i64_sg a ha, i64_sg b hb, xor_top a ha, xor_top b hb, sg] at h0 h1 h2 h3
  omega

theorem exc4_no : ∀ q ∈ exc4, ∀ i, ¬ Holds i q :=
  List.forall_mem_cons.2 ⟨exc4_0_no, List.forall_mem_cons.2 ⟨exc4_1_no, (fun p h => by cases h)⟩⟩

theorem exc5_0_no (i : Nat → Int) : ¬ Holds i [((.lt (.ar .xor .u64 (.var 1 0 18446744073709551615) (.lit 9223372036854775808)) (.ar .xor .u64 (.var 2 0 18446744073709551615) (.lit 9223372036854775808))), false), ((.lt (.conv .i64 (.var 1 0 18446744073709551615)) (.conv .i64 (.var 2 0 18446744073709551615))), true), ((.lt (.var 2 0 18446744073709551615) (.lit 9223372036854775808)), false), ((.lt (.var 1 0 18446744073709551615) (.lit 9223372036854775808)), false), ((.eq (.var 0 0 255) (.lit 23)), true), ((.eq (.var 0 0 255) (.lit 22)), false), ((.lt (.var 0 0 255) (.lit 36)), true), ((.lt (.var 0 0 255) (.lit 22)), false)] := by
  intro hh
  obtain ⟨a, ea, ha⟩ := var_nat i 1
  obtain ⟨b, eb, hb⟩ := var_nat i 2
  have h0 := hh _ _ (.head _)
  have h1 := hh _ _ (.tail _ (.head _))
  have h2 := hh _ _ (.tail _ (.tail _ (.head _)))
  have h3 := hh _ _ (.tail _ (.tail _ (.tail _ (.head _))))
  clear hh
  simp only [den_ar, den_conv, den_eq, den_lt, den_lit, ea, eb, true_iff, Bool.false_eq_true, false_iff, bI_ne, ieq_iff, ilt_iff, Classical.not_not, ne_eq] at h0 h1 h2 h3
  simp only [i64_sg a ha, i64_sg b hb, xor_top a ha, xor_top b hb, sg] at h0 h1 h2 h3
  omega

theorem exc5_1_no (i : Nat → Int) : ¬ Holds i [((.lt (.ar .xor .u64 (.var 1 0 18446744073709551615) (.lit 9223372036854775808)) (.ar .xor .u64 (.var 2 0 18446744073709551615) (.lit 9223372036854775808))), true), ((.lt (.conv .i64 (.var 1 0 18446744073709551615)) (.conv .i64 (.var 2 0 18446744073709551615))), false), ((.lt (.var 2 0 18446744073709551615) (.lit 9223372036854775808)), false), ((.lt (.var 1 0 18446744073709551615) (.lit 9223372036854775808)), false), ((.eq (.var 0 0 255) (.lit 23)), true), ((.eq (.var 0 0 255) (.lit 22)), false), ((.lt (.var 0 0 255) (.lit 36)), true), ((.lt (.var 0 0 255) (.lit 22)), false)] := by
  intro hh
  obtain ⟨a, ea, ha⟩ := var_nat i 1
  obtain ⟨b, eb, hb⟩ := var_nat i 2
  have h0 := hh _ _ (.head _)
  have h1 := hh _ _ (.tail _ (.head _))
  have h2 := hh _ _ (.tail _ (.tail _ (.head _)))
  have h3 := hh _ _ (.tail _ (.tail _ (.tail _ (.head _))))
  clear hh
  simp only [den_ar, den_conv, den_eq, den_lt, den_lit, ea, eb, true_iff, Bool.false_eq_true, false_iff, bI_ne, ieq_iff, ilt_iff, Classical.not_not, ne_eq] at h0 h1 h2 h3
  simp only [i64_sg a ha, i64_sg b hb, xor_top a ha, xor_top b hb, sg] at h0 h1 h2 h3
  omega

theorem exc5_no : ∀ q ∈ exc5, ∀ i, ¬ Holds i q :=
  List.forall_mem_cons.2 ⟨exc5_0_no, List.forall_mem_cons.2 ⟨exc5_1_no, (fun p h => by cases h)⟩⟩

theorem exc6_no : ∀ q ∈ exc6, ∀ i, ¬ Holds i q :=
  (fun p h => by cases h)

theorem exc7_0_no (i : Nat → Int) : ¬ Holds i [((.eq (.ar .xor .u64 (.var 1 0 18446744073709551615) (.var 2 0 18446744073709551615)) (.ar .sub .u64 (.ar .or .u64 (.var 1 0 18446744073709551615) (.var 2 0 18446744073709551615)) (.ar .and .u64 (.var 1 0 18446744073709551615) (.var 2 0 18446744073709551615)))), false), ((.eq (.var 0 0 255) (.lit 25)), true), ((.eq (.var 0 0 255) (.lit 24)), false), ((.eq (.var 0 0 255) (.lit 23)), false), ((.eq (.var 0 0 255) (.lit 22)), false), ((.lt (.var 0 0 255) (.lit 36)), true), ((.lt (.var 0 0 255) (.lit 22)), false)] := by
  intro hh
  obtain ⟨a, ea, ha⟩ := var_nat i 1
  obtain ⟨b, eb, hb⟩ := var_nat i 2
  have h0 := hh _ _ (.head _)
  clear hh
  simp only [den_ar, den_conv, den_eq, den_lt, den_lit, ea, eb, true_iff, Bool.false_eq_true, false_iff, bI_ne, ieq_iff, ilt_iff, Classical.not_not, ne_eq] at h0
  exact h0 (xor_sub a b ha hb)

theorem exc7_no : ∀ q ∈ exc7, ∀ i, ¬ Holds i q :=
  List.forall_mem_cons.2 ⟨exc7_0_no, (fun p h => by cases h)⟩

theorem exc8_no : ∀ q ∈ exc8, ∀ i, ¬ Holds i q :=
  (fun p h => by cases h)

theorem exc9_no : ∀ q ∈ exc9, ∀ i, ¬ Holds i q :=
  (fun p h => by cases h)

theorem exc10_0_no (i : Nat → Int) : ¬ Holds i [((.eq (.ar .shl .u64 (.var 1 0 18446744073709551615) (.ar .and .u64 (.var 2 0 18446744073709551615) (.lit 63))) (.ar .shl .u64 (.var 1 0 18446744073709551615) (.ar .rem .u64 (.var 2 0 18446744073709551615) (.lit 64)))), false), ((.eq (.var 0 0 255) (.lit 28)), true), ((.eq (.var 0 0 255) (.lit 27)), false), ((.eq (.var 0 0 255) (.lit 26)), false), ((.eq (.var 0 0 255) (.lit 25)), false), ((.eq (.var 0 0 255) (.lit 24)), false), ((.eq (.var 0 0 255) (.lit 23)), false), ((.eq (.var 0 0 255) (.lit 22)), false), ((.lt (.var 0 0 255) (.lit 36)), true), ((.lt (.var 0 0 255) (.lit 22)), false)] := by
  intro hh
  obtain ⟨a, ea, ha⟩ := var_nat i 1
  obtain ⟨b, eb, hb⟩ := var_nat i 2
  have h0 := hh _ _ (.head _)
  clear hh
  simp only [den_ar, den_conv, den_eq, den_lt, den_lit, ea, eb, true_iff, Bool.false_eq_true, false_iff, bI_ne, ieq_iff, ilt_iff, Classical.not_not, ne_eq] at h0
  simp only [and63 b hb, and31 b hb, rem64, rem32, i32_sw, i32_shr, not_true_eq_false] at h0

theorem exc10_no : ∀ q ∈ exc10, ∀ i, ¬ Holds i q :=
  List.forall_mem_cons.2 ⟨exc10_0_no, (fun p h => by cases h)⟩

theorem exc11_0_no (i : Nat → Int) : ¬ Holds i [((.eq (.ar .shr .u64 (.var 1 0 18446744073709551615) (.ar .and .u64 (.var 2 0 18446744073709551615) (.lit 63))) (.ar .shr .u64 (.var 1 0 18446744073709551615) (.ar .rem .u64 (.var 2 0 18446744073709551615) (.lit 64)))), false), ((.eq (.var 0 0 255) (.lit 29)), true), ((.eq (.var 0 0 255) (.lit 28)), false), ((.eq (.var 0 0 255) (.lit 27)), false), ((.eq (.var 0 0 255) (.lit 26)), false), ((.eq (.var 0 0 255) (.lit 25)), false), ((.eq (.var 0 0 255) (.lit 24)), false), ((.eq (.var 0 0 255) (.lit 23)), false), ((.eq (.var 0 0 255) (.lit 22)), false), ((.lt (.var 0 0 255) (.lit 36)), true), ((.lt (.var 0 0 255) (.lit 22)), false)] := by
  intro hh
  obtain ⟨a, ea, ha⟩ := var_nat i 1
  obtain ⟨b, eb, hb⟩ := var_nat i 2
  have h0 := hh _ _ (.head _)
  clear hh
  simp only [den_ar, den_conv, den_eq, den_lt, den_lit, ea, eb, true_iff, Bool.false_eq_true, false_iff, bI_ne, ieq_iff, ilt_iff, Classical.not_not, ne_eq] at h0
  simp only [and63 b hb, and31 b hb, rem64, rem32, i32_sw, i32_shr, not_true_eq_false] at h0

theorem exc11_no : ∀ q ∈ exc11, ∀ i, ¬ Holds i q :=
  List.forall_mem_cons.2 ⟨exc11_0_no, (fun p h => by cases h)⟩

theorem exc12_0_no (i : Nat → Int) : ¬ Holds i [((.eq (.conv .u64 (.ar .shr .i64 (.conv .i64 (.var 1 0 18446744073709551615)) (.ar .and .u64 (.var 2 0 18446744073709551615) (.lit 63)))) (.conv .u64 (.ar .shr .i64 (.conv .i64 (.var 1 0 18446744073709551615)) (.ar .rem .u64 (.var 2 0 18446744073709551615) (.lit 64))))), false), ((.eq (.var 0 0 255) (.lit 30)), true), ((.eq (.var 0 0 255) (.lit 29)), false), ((.eq (.var 0 0 255) (.lit 28)), false), ((.eq (.var 0 0 255) (.lit 27)), false), ((.eq (.var 0 0 255) (.lit 26)), false), ((.eq (.var 0 0 255) (.lit 25)), false), ((.eq (.var 0 0 255) (.lit 24)), false), ((.eq (.var 0 0 255) (.lit 23)), false), ((.eq (.var 0 0 255) (.lit 22)), false), ((.lt (.var 0 0 255) (.lit 36)), true), ((.lt (.var 0 0 255) (.lit 22)), false)] := by
  intro hh
  obtain ⟨a, ea, ha⟩ := var_nat i 1
  obtain ⟨b, eb, hb⟩ := var_nat i 2
  have h0 := hh _ _ (.head _)
  clear hh
  simp only [den_ar, den_conv, den_eq, den_lt, den_lit, ea, eb, true_iff, Bool.false_eq_true, false_iff, bI_ne, ieq_iff, ilt_iff, Classical.not_not, ne_eq] at h0
  simp only [and63 b hb, and31 b hb, rem64, rem32, i32_sw, i32_shr, not_true_eq_false] at h0

theorem exc12_no : ∀ q ∈ exc12, ∀ i, ¬ Holds i q :=
  List.forall_mem_cons.2 ⟨exc12_0_no, (fun p h => by cases h)⟩

theorem exc13_no : ∀ q ∈ exc13, ∀ i, ¬ Holds i q :=
  (fun p h => by cases h)

theorem exc14_no : ∀ q ∈ exc14, ∀ i, ¬ Holds i q :=
  (fun p h => by cases h)

theorem exc15_0_no (i : Nat → Int) : ¬ Holds i [((.eq (.ar .shl .u64 (.var 1 0 18446744073709551615) (.ar .and .u64 (.var 2 0 18446744073709551615) (.lit 63))) (.ar .shl .u64 (.var 1 0 18446744073709551615) (.ar .rem .u64 (.var 2 0 18446744073709551615) (.lit 64)))), false), ((.eq (.var 0 0 255) (.lit 33)), true), ((.eq (.var 0 0 255) (.lit 32)), false), ((.eq (.var 0 0 255) (.lit 31)), false), ((.eq (.var 0 0 255) (.lit 30)), false), ((.eq (.var 0 0 255) (.lit 29)), false), ((.eq (.var 0 0 255) (.lit 28)), false), ((.eq (.var 0 0 255) (.lit 27)), false), ((.eq (.var 0 0 255) (.lit 26)), false), ((.eq (.var 0 0 255) (.lit 25)), false), ((.eq (.var 0 0 255) (.lit 24)), false), ((.eq (.var 0 0 255) (.lit 23)), false), ((.eq (.var 0 0 255) (.lit 22)), false), ((.lt (.var 0 0 255) (.lit 36)), true), ((.lt (.var 0 0 255) (.lit 22)), false)] := by
  intro hh
  obtain ⟨a, ea, ha⟩ := var_nat i 1
  obtain ⟨b, eb, hb⟩ := var_nat i 2
  have h0 := hh _ _ (.head _)
  clear hh
  simp only [den_ar, den_conv, den_eq, den_lt, den_lit, ea, eb, true_iff, Bool.false_eq_true, false_iff, bI_ne, ieq_iff, ilt_iff, Classical.not_not, ne_eq] at h0
  simp only [and63 b hb, and31 b hb, rem64, rem32, i32_sw, i32_shr, not_true_eq_false] at h0

theorem exc15_no : ∀ q ∈ exc15, ∀ i, ¬ Holds i q :=
  List.forall_mem_cons.2 ⟨exc15_0_no, (fun p h => by cases h)⟩

theorem exc16_0_no (i : Nat → Int) : ¬ Holds i [((.lt (.ar .xor .u64 (.var 1 0 18446744073709551615) (.lit 9223372036854775808)) (.ar .xor .u64 (.var 2 0 18446744073709551615) (.lit 9223372036854775808))), false), ((.lt (.conv .i64 (.var 1 0 18446744073709551615)) (.conv .i64 (.var 2 0 18446744073709551615))), true), ((.lt (.var 2 0 18446744073709551615) (.lit 9223372036854775808)), true), ((.lt (.var 1 0 18446744073709551615) (.lit 9223372036854775808)), true), ((.eq (.var 0 0 255) (.lit 34)), true), ((.eq (.var 0 0 255) (.lit 33)), false), ((.eq (.var 0 0 255) (.lit 32)), false), ((.eq (.var 0 0 255) (.lit 31)), false), ((.eq (.var 0 0 255) (.lit 30)), false), ((.eq (.var 0 0 255) (.lit 29)), false), ((.eq (.var 0 0 255) (.lit 28)), false), ((.eq (.var 0 0 255) (.lit 27)), false), ((.eq (.var 0 0 255) (.lit 26)), false), ((.eq (.var 0 0 255) (.lit 25)), false), ((.eq (.var 0 0 255) (.lit 24)), false), ((.eq (.var 0 0 255) (.lit 23)), false), ((.eq (.var 0 0 255) (.lit 22)), false), ((.lt (.var 0 0 255) (.lit 36)), true), ((.lt (.var 0 0 255) (.lit 22)), false)] := by
  intro hh
  obtain ⟨a, ea, ha⟩ := var_nat i 1
  obtain ⟨b, eb, hb⟩ := var_nat i 2
  have h0 := hh _ _ (.head _)
  have h1 := hh _ _ (.tail _ (.head _))
  have h2 := hh _ _ (.tail _ (.tail _ (.head _)))
  have h3 := hh _ _ (.tail _ (.tail _ (.tail _ (.head _))))
  clear hh
  simp only [den_ar, den_conv, den_eq, den_lt, den_lit, ea, eb, true_iff, Bool.false_eq_true, false_iff, bI_ne, ieq_iff, ilt_iff, Classical.not_not, ne_eq] at h0 h1 h2 h3
  simp only [i64_sg a ha, i64_sg b hb, xor_top a ha, xor_top b hb, sg] at h0 h1 h2 h3
  omega

theorem exc16_1_no (i : Nat → Int) : ¬ Holds i [((.lt (.ar .xor .u64 (.var 1 0 18446744073709551615) (.lit 9223372036854775808)) (.ar .xor .u64 (.var 2 0 18446744073709551615) (.lit 9223372036854775808))), true), ((.lt (.conv .i64 (.var 1 0 18446744073709551615)) (.conv .i64 (.var 2 0 18446744073709551615))), false), ((.lt (.var 2 0 18446744073709551615) (.lit 9223372036854775808)), true), ((.lt (.var 1 0 18446744073709551615) (.lit 9223372036854775808)), true), ((.eq (.var 0 0 255) (.lit 34)), true), ((.eq (.var 0 0 255) (.lit 33)), false), ((.eq (.var 0 0 255) (.lit 32)), false), ((.eq (.var 0 0 255) (.lit 31)), false), ((.eq (.var 0 0 255) (.lit 30)), false), ((.eq (.var 0 0 255) (.lit 29)), false), ((.eq (.var 0 0 255) (.lit 28)), false), ((.eq (.var 0 0 255) (.lit 27)), false), ((.eq (.var 0 0 255) (.lit 26)), false), ((.eq (.var 0 0 255) (.lit 25)), false), ((.eq (.var 0 0 255) (.lit 24)), false), ((.eq (.var 0 0 255) (.lit 23)), false), ((.eq (.var 0 0 255) (.lit 22)), false), ((.lt (.var 0 0 255) (.lit 36)), true), ((.lt (.var 0 0 255) (.lit 22)), false)] := by
  intro hh
  obtain ⟨a, ea, ha⟩ := var_nat i 1
  obtain ⟨b, eb, hb⟩ := var_nat i 2
  have h0 := hh _ _ (.head _)
  have h1 := hh _ _ (.tail _ (.head _))
  have h2 := hh _ _ (.tail _ (.tail _ (.head _)))
  have h3 := hh _ _ (.tail _ (.tail _ (.tail _ (.head _))))
  clear hh
  simp only [den_ar, den_conv, den_eq, den_lt, den_lit, ea, eb, true_iff, Bool.false_eq_true, false_iff, bI_ne, ieq_iff, ilt_iff, Classical.not_not, ne_eq] at h0 h1 h2 h3
  simp only [i64_sg a ha, i64_sg b hb, xor_top a ha, xor_top b hb, sg] at h0 h1 h2 h3
  omega

theorem exc16_no : ∀ q ∈ exc16, ∀ i, ¬ Holds i q :=
  List.forall_mem_cons.2 ⟨exc16_0_no, List.forall_mem_cons.2 ⟨exc16_1_no, (fun p h => by cases h)⟩⟩

theorem exc17_0_no (i : Nat → Int) : ¬ Holds i [((.lt (.ar .xor .u64 (.var 1 0 18446744073709551615) (.lit 9223372036854775808)) (.ar .xor .u64 (.var 2 0 18446744073709551615) (.lit 9223372036854775808))), false), ((.lt (.conv .i64 (.var 1 0 18446744073709551615)) (.conv .i64 (.var 2 0 18446744073709551615))), true), ((.lt (.var 2 0 18446744073709551615) (.lit 9223372036854775808)), false), ((.lt (.var 1 0 18446744073709551615) (.lit 9223372036854775808)), true), ((.eq (.var 0 0 255) (.lit 34)), true), ((.eq (.var 0 0 255) (.lit 33)), false), ((.eq (.var 0 0 255) (.lit 32)), false), ((.eq (.var 0 0 255) (.lit 31)), false), ((.eq (.var 0 0 255) (.lit 30)), false), ((.eq (.var 0 0 255) (.lit 29)), false), ((.eq (.var 0 0 255) (.lit 28)), false), ((.eq (.var 0 0 255) (.lit 27)), false), ((.eq (.var 0 0 255) (.lit 26)), false), ((.eq (.var 0 0 255) (.lit 25)), false), ((.eq (.var 0 0 255) (.lit 24)), false), ((.eq (.var 0 0 255) (.lit 23)), false), ((.eq (.var 0 0 255) (.lit 22)), false), ((.lt (.var 0 0 255) (.lit 36)), true), ((.lt (.var 0 0 255) (.lit 22)), false)] := by
  intro hh
  obtain ⟨a, ea, ha⟩ := var_nat i 1
  obtain ⟨b, eb, hb⟩ := var_nat i 2
  have h0 := hh _ _ (.head _)
  have h1 := hh _ _ (.tail _ (.head _))
  have h2 := hh _ _ (.tail _ (.tail _ (.head _)))
  have h3 := hh _ _ (.tail _ (.tail _ (.tail _ (.head _))))
  clear hh
  simp only [den_ar, den_conv, den_eq, den_lt, den_lit, ea, eb, true_iff, Bool.false_eq_true, false_iff, bI_ne, ieq_iff, ilt_iff, Classical.not_not, ne_eq] at h0 h1 h2 h3
  simp only [i64_sg a ha, i64_sg b hb, xor_top a ha, xor_top b hb, sg] at h0 h1 h2 h3
  omega

theorem exc17_1_no (i : Nat → Int) : ¬ Holds i [((.lt (.ar .xor .u64 (.var 1 0 18446744073709551615) (.lit 9223372036854775808)) (.ar .xor .u64 (.var 2 0 18446744073709551615) (.lit 9223372036854775808))), true), ((.lt (.conv .i64 (.var 1 0 18446744073709551615)) (.conv .i64 (.var 2 0 18446744073709551615))), false), ((.lt (.var 2 0 18446744073709551615) (.lit 9223372036854775808)), false), ((.lt (.var 1 0 18446744073709551615) (.lit 9223372036854775808)), true), ((.eq (.var 0 0 255) (.lit 34)), true), ((.eq (.var 0 0 255) (.lit 33)), false), ((.eq (.var 0 0 255) (.lit 32)), false), ((.eq (.var 0 0 255) (.lit 31)), false), ((.eq (.var 0 0 255) (.lit 30)), false), ((.eq (.var 0 0 255) (.lit 29)), false), ((.eq (.var 0 0 255) (.lit 28)), false), ((.eq (.var 0 0 255) (.lit 27)), false), ((.eq (.var 0 0 255) (.lit 26)), false), ((.eq (.var 0 0 255) (.lit 25)), false), ((.eq (.var 0 0 255) (.lit 24)), false), ((.eq (.var 0 0 255) (.lit 23)), false), ((.eq (.var 0 0 255) (.lit 22)), false), ((.lt (.var 0 0 255) (.lit 36)), true), ((.lt (.var 0 0 255) (.lit 22)), false)] := by
  intro hh
  obtain ⟨a, ea, ha⟩ := var_nat i 1
  obtain ⟨b, eb, hb⟩ := var_nat i 2
  have h0 := hh _ _ (.head _)
  have h1 := hh _ _ (.tail _ (.head _))
  have h2 := hh _ _ (.tail _ (.tail _ (.head _)))
  have h3 := hh _ _ (.tail _ (.tail _ (.tail _ (.head _))))
  clear hh
  simp only [den_ar, den_conv, den_eq, den_lt, den_lit, ea, eb, true_iff, Bool.false_eq_true, false_iff, bI_ne, ieq_iff, ilt_iff, Classical.not_not, ne_eq] at h0 h1 h2 h3
  simp only [i64_sg a ha, i64_sg b hb, xor_top a ha, xor_top b hb, sg] at h0 h1 h2 h3
  omega

theorem exc17_no : ∀ q ∈ exc17, ∀ i, ¬ Holds i q :=
  List.forall_mem_cons.2 ⟨exc17_0_no, List.forall_mem_cons.2 ⟨exc17_1_no, (fun p h => by cases h)⟩⟩

theorem exc18_0_no (i : Nat → Int) : ¬ Holds i [((.lt (.ar .xor .u64 (.var 1 0 18446744073709551615) (.lit 9223372036854775808)) (.ar .xor .u64 (.var 2 0 18446744073709551615) (.lit 9223372036854775808))), false), ((.lt (.conv .i64 (.var 1 0 18446744073709551615)) (.conv .i64 (.var 2 0 18446744073709551615))), true), ((.lt (.var 2 0 18446744073709551615) (.lit 9223372036854775808)), true), ((.lt (.var 1 0 18446744073709551615) (.lit 9223372036854775808)), false), ((.eq (.var 0 0 255) (.lit 34)), true), ((.eq (.var 0 0 255) (.lit 33)), false), ((.eq (.var 0 0 255) (.lit 32)), false), ((.eq (.var 0 0 255) (.lit 31)), false), ((.eq (.var 0 0 255) (.lit 30)), false), ((.eq (.var 0 0 255) (.lit 29)), false), ((.eq (.var 0 0 255) (.lit 28)), false), ((.eq (.var 0 0 255) (.lit 27)), false), ((.eq (.var 0 0 255) (.lit 26)), false), ((.eq (.var 0 0 255) (.lit 25)), false), ((.eq (.var 0 0 255) (.lit 24)), false), ((.eq (.var 0 0 255) (.lit 23)), false), ((.eq (.var 0 0 255) (.lit 22)), false), ((.lt (.var 0 0 255) (.lit 36)), true), ((.lt (.var 0 0 255) (.lit 22)), false)] := by
  intro hh
  obtain ⟨a, ea, ha⟩ := var_nat i 1
  obtain ⟨b, eb, hb⟩ := var_nat i 2
  have h0 := hh _ _ (.head _)
  have h1 := hh _ _ (.tail _ (.head _))
  have h2 := hh _ _ (.tail _ (.tail _ (.head _)))
  have h3 := hh _ _ (.tail _ (.tail _ (.tail _ (.head _))))
  clear hh
  simp only [den_ar, den_conv, den_eq, den_lt, den_lit, ea, eb, true_iff, Bool.false_eq_true, false_iff, bI_ne, ieq_iff, ilt_iff, Classical.not_not, ne_eq] at h0 h1 h2 h3
  simp only [i64_sg a ha, i64_sg b hb, xor_top a ha, xor_top b hb, sg] at h0 h1 h2 h3
  omega

theorem exc18_1_no (i : Nat → Int) : ¬ Holds i [((.lt (.ar .xor .u64 (.var 1 0 18446744073709551615) (.lit 9223372036854775808)) (.ar .xor .u64 (.var 2 0 18446744073709551615) (.lit 9223372036854775808))), true), ((.lt (.conv .i64 (.var 1 0 18446744073709551615)) (.conv .i64 (.var 2 0 18446744073709551615))), false), ((.lt (.var 2 0 18446744073709551615) (.lit 9223372036854775808)), true), ((.lt (.var 1 0 18446744073709551615) (.lit 9223372036854775808)), false), ((.eq (.var 0 0 255) (.lit 34)), true), ((.eq (.var 0 0 255) (.lit 33)), false), ((.eq (.var 0 0 255) (.lit 32)), false), ((.eq (.var 0 0 255) (.lit 31)), false), ((.eq (.var 0 0 255) (.lit 30)), false), ((.eq (.var 0 0 255) (.lit 29)), false), ((.eq (.var 0 0 255) (.lit 28)), false), ((.eq (.var 0 0 255) (.lit 27)), false), ((.eq (.var 0 0 255) (.lit 26)), false), ((.eq (.var 0 0 255) (.lit 25)), false), ((.eq (.var 0 0 255) (.lit 24)), false), ((.eq (.var 0 0 255) (.lit 23)), false), ((.eq (.var 0 0 255) (.lit 22)), false), ((.lt (.var 0 0 255) (.lit 36)), true), ((.lt (.var 0 0 255) (.lit 22)), false)] := by
  intro hh
  obtain ⟨a, ea, ha⟩ := var_nat i 1
  obtain ⟨b, eb, hb⟩ := var_nat i 2
  have h0 := hh _ _ (.head _)
  have h1 := hh _ _ (.tail _ (.head _))
  have h2 := hh _ _ (.tail _ (.tail _ (.head _)))
  have h3 := hh _ _ (.tail _ (.tail _ (.tail _ (.head _))))
  clear hh
  simp only [den_ar, den_conv, den_eq, den_lt, den_lit, ea, eb, true_iff, Bool.false_eq_true, false_iff, bI_ne, ieq_iff, ilt_iff, Classical.not_not, ne_eq] at h0 h1 h2 h3
  simp only [i64_sg a ha, i64_sg b hb, xor_top a ha, xor_top b hb, sg] at h0 h1 h2 h3
  omega

theorem exc18_no : ∀ q ∈ exc18, ∀ i, ¬ Holds i q :=
  List.forall_mem_cons.2 ⟨exc18_0_no, List.forall_mem_cons.2 ⟨exc18_1_no, (fun p h => by cases h)⟩⟩

theorem exc19_0_no (i : Nat → Int) : ¬ Holds i [((.lt (.ar .xor .u64 (.var 1 0 18446744073709551615) (.lit 9223372036854775808)) (.ar .xor .u64 (.var 2 0 18446744073709551615) (.lit 9223372036854775808))), false), ((.lt (.conv .i64 (.var 1 0 18446744073709551615)) (.conv .i64 (.var 2 0 18446744073709551615))), true), ((.lt (.var 2 0 18446744073709551615) (.lit 9223372036854775808)), false), ((.lt (.var 1 0 18446744073709551615) (.lit 9223372036854775808)), false), ((.eq (.var 0 0 255) (.lit 34)), true), ((.eq (.var 0 0 255) (.lit 33)), false), ((.eq (.var 0 0 255) (.lit 32)), false), ((.eq (.var 0 0 255) (.lit 31)), false), ((.eq (.var 0 0 255) (.lit 30)), false), ((.eq (.var 0 0 255) (.lit 29)), false), ((.eq (.var 0 0 255) (.lit 28)), false), ((.eq (.var 0 0 255) (.lit 27)), false), ((.eq (.var 0 0 255) (.lit 26)), false), ((.eq (.var 0 0 255) (.lit 25)), false), ((.eq (.var 0 0 255) (.lit 24)), false), ((.eq (.var 0 0 255) (.lit 23)), false), ((.eq (.var 0 0 255) (.lit 22)), false), ((.lt (.var 0 0 255) (.lit 36)), true), ((.lt (.var 0 0 255) (.lit 22)), false)] := by
  intro hh
  obtain ⟨a, ea, ha⟩ := var_nat i 1
  obtain ⟨b, eb, hb⟩ := var_nat i 2
  have h0 := hh _ _ (.head _)
  have h1 := hh _ _ (.tail _ (.head _))
  have h2 := hh _ _ (.tail _ (.tail _ (.head _)))
  have h3 := hh _ _ (.tail _ (.tail _ (.tail _ (.head _))))
  clear hh
  simp only [den_ar, den_conv, den_eq, den_lt, den_lit, ea, eb, true_iff, Bool.false_eq_true, false_iff, bI_ne, ieq_iff, ilt_iff, Classical.not_not, ne_eq] at h0 h1 h2 h3
  simp only [i64_sg a ha, i64_sg b hb, xor_top a ha, xor_top b hb, sg] at h0 h1 h2 h3
  omega

theorem exc19_1_no (i : Nat → Int) : ¬ Holds i [((.lt (.ar .xor .u64 (.var 1 0 18446744073709551615) (.lit 9223372036854775808)) (.ar .xor .u64 (.var 2 0 18446744073709551615) (.lit 9223372036854775808))), true), ((.lt (.conv .i64 (.var 1 0 18446744073709551615)) (.conv .i64 (.var 2 0 18446744073709551615))), false), ((.lt (.var 2 0 18446744073709551615) (.lit 9223372036854775808)), false), ((.lt (.var 1 0 18446744073709551615) (.lit 9223372036854775808)), false), ((.eq (.var 0 0 255) (.lit 34)), true), ((.eq (.var 0 0 255) (.lit 33)), false), ((.eq (.var 0 0 255) (.lit 32)), false), ((.eq (.var 0 0 255) (.lit 31)), false), ((.eq (.var 0 0 255) (.lit 30)), false), ((.eq (.var 0 0 255) (.lit 29)), false), ((.eq (.var 0 0 255) (.lit 28)), false), ((.eq (.var 0 0 255) (.lit 27)), false), ((.eq (.var 0 0 255) (.lit 26)), false), ((.eq (.var 0 0 255) (.lit 25)), false), ((.eq (.var 0 0 255) (.lit 24)), false), ((.eq (.var 0 0 255) (.lit 23)), false), ((.eq (.var 0 0 255) (.lit 22)), false), ((.lt (.var 0 0 255) (.lit 36)), true), ((.lt (.var 0 0 255) (.lit 22)), false)] := by
  intro hh
  obtain ⟨a, ea, ha⟩ := var_nat i 1
  obtain ⟨b, eb, hb⟩ := var_nat i 2
  have h0 := hh _ _ (.head _)
  have h1 := hh _ _ (.tail _ (.head _))
  have h2 := hh _ _ (.tail _ (.tail _ (.head _)))
  have h3 := hh _ _ (.tail _ (.tail _ (.tail _ (.head _))))
  clear hh
  simp only [den_ar, den_conv, den_eq, den_lt, den_lit, ea, eb, true_iff, Bool.false_eq_true, false_iff, bI_ne, ieq_iff, ilt_iff, Classical.not_not, ne_eq] at h0 h1 h2 h3
  simp only [i64_sg a ha, i64_sg b hb, xor_top a ha, xor_top b hb, sg] at h0 h1 h2 h3
  omega

theorem exc19_no : ∀ q ∈ exc19, ∀ i, ¬ Holds i q :=
  List.forall_mem_cons.2 ⟨exc19_0_no, List.forall_mem_cons.2 ⟨exc19_1_no, (fun p h => by cases h)⟩⟩

theorem exc20_no : ∀ q ∈ exc20, ∀ i, ¬ Holds i q :=
  (fun p h => by cases h)

theorem exc22_0_no (i : Nat → Int) : ¬ Holds i [((.eq (.ar .xor .u64 (.var 1 0 18446744073709551615) (.var 2 0 18446744073709551615)) (.ar .sub .u64 (.ar .or .u64 (.var 1 0 18446744073709551615) (.var 2 0 18446744073709551615)) (.ar .and .u64 (.var 1 0 18446744073709551615) (.var 2 0 18446744073709551615)))), false), ((.eq (.var 0 0 255) (.lit 36)), true), ((.lt (.var 0 0 255) (.lit 50)), true), ((.lt (.var 0 0 255) (.lit 36)), false), ((.lt (.var 0 0 255) (.lit 22)), false)] := by
  intro hh
  obtain ⟨a, ea, ha⟩ := var_nat i 1
  obtain ⟨b, eb, hb⟩ := var_nat i 2
  have h0 := hh _ _ (.head _)
  clear hh
  simp only [den_ar, den_conv, den_eq, den_lt, den_lit, ea, eb, true_iff, Bool.false_eq_true, false_iff, bI_ne, ieq_iff, ilt_iff, Classical.not_not, ne_eq] at h0
  exact h0 (xor_sub a b ha hb)

theorem exc22_no : ∀ q ∈ exc22, ∀ i, ¬ Holds i q :=
  List.forall_mem_cons.2 ⟨exc22_0_no, (fun p h => by cases h)⟩

theorem exc23_0_no (i : Nat → Int) : ¬ Holds i [((.eq (.ar .shr .u64 (.var 1 0 18446744073709551615) (.ar .and .u64 (.var 2 0 18446744073709551615) (.lit 63))) (.ar .shr .u64 (.var 1 0 18446744073709551615) (.ar .rem .u64 (.var 2 0 18446744073709551615) (.lit 64)))), false), ((.eq (.var 0 0 255) (.lit 37)), true), ((.eq (.var 0 0 255) (.lit 36)), false), ((.lt (.var 0 0 255) (.lit 50)), true), ((.lt (.var 0 0 255) (.lit 36)), false), ((.lt (.var 0 0 255) (.lit 22)), false)] := by
  intro hh
  obtain ⟨a, ea, ha⟩ := var_nat i 1
  obtain ⟨b, eb, hb⟩ := var_nat i 2
  have h0 := hh _ _ (.head _)
  clear hh
  simp only [den_ar, den_conv, den_eq, den_lt, den_lit, ea, eb, true_iff, Bool.false_eq_true, false_iff, bI_ne, ieq_iff, ilt_iff, Classical.not_not, ne_eq] at h0
  simp only [and63 b hb, and31 b hb, rem64, rem32, i32_sw, i32_shr, not_true_eq_false] at h0

theorem exc23_no : ∀ q ∈ exc23, ∀ i, ¬ Holds i q :=
  List.forall_mem_cons.2 ⟨exc23_0_no, (fun p h => by cases h)⟩

theorem exc24_0_no (i : Nat → Int) : ¬ Holds i [((.eq (.conv .u64 (.ar .shr .i64 (.conv .i64 (.var 1 0 18446744073709551615)) (.ar .and .u64 (.var 2 0 18446744073709551615) (.lit 63)))) (.conv .u64 (.ar .shr .i64 (.conv .i64 (.var 1 0 18446744073709551615)) (.ar .rem .u64 (.var 2 0 18446744073709551615) (.lit 64))))), false), ((.eq (.var 0 0 255) (.lit 38)), true), ((.eq (.var 0 0 255) (.lit 37)), false), ((.eq (.var 0 0 255) (.lit 36)), false), ((.lt (.var 0 0 255) (.lit 50)), true), ((.lt (.var 0 0 255) (.lit 36)), false), ((.lt (.var 0 0 255) (.lit 22)), false)] := by
  intro hh
  obtain ⟨a, ea, ha⟩ := var_nat i 1
  obtain ⟨b, eb, hb⟩ := var_nat i 2
  have h0 := hh _ _ (.head _)
  clear hh
  simp only [den_ar, den_conv, den_eq, den_lt, den_lit, ea, eb, true_iff, Bool.false_eq_true, false_iff, bI_ne, ieq_iff, ilt_iff, Classical.not_not, ne_eq] at h0
  simp only [and63 b hb, and31 b hb, rem64, rem32, i32_sw, i32_shr, not_true_eq_false] at h0

theorem exc24_no : ∀ q ∈ exc24, ∀ i, ¬ Holds i q :=
  List.forall_mem_cons.2 ⟨exc24_0_no, (fun p h => by cases h)⟩

theorem exc25_no : ∀ q ∈ exc25, ∀ i, ¬ Holds i q :=
  (fun p h => by cases h)

theorem exc26_no : ∀ q ∈ exc26, ∀ i, ¬ Holds i q :=
  (fun p h => by cases h)

theorem exc27_no : ∀ q ∈ exc27, ∀ i, ¬ Holds i q :=
  (fun p h => by cases h)

theorem exc28_0_no (i : Nat → Int) : ¬ Holds i [((.eq (.conv .u64 (.conv .i32 (.ar .shl .u64 (.var 1 0 18446744073709551615) (.ar .and .u64 (.var 2 0 18446744073709551615) (.lit 31))))) (.conv .u64 (.conv .i32 (.ar .shl .u64 (.var 1 0 18446744073709551615) (.ar .rem .u64 (.var 2 0 18446744073709551615) (.lit 32)))))), false), ((.eq (.var 0 0 255) (.lit 42)), true), ((.eq (.var 0 0 255) (.lit 41)), false), ((.eq (.var 0 0 255) (.lit 40)), false), ((.eq (.var 0 0 255) (.lit 39)), false), ((.eq (.var 0 0 255) (.lit 38)), false), ((.eq (.var 0 0 255) (.lit 37)), false), ((.eq (.var 0 0 255) (.lit 36)), false), ((.lt (.var 0 0 255) (.lit 50)), true), ((.lt (.var 0 0 255) (.lit 36)), false), ((.lt (.var 0 0 255) (.lit 22)), false)] := by
  intro hh
  obtain ⟨a, ea, ha⟩ := var_nat i 1
  obtain ⟨b, eb, hb⟩ := var_nat i 2
  have h0 := hh _ _ (.head _)
  clear hh
  simp only [den_ar, den_conv, den_eq, den_lt, den_lit, ea, eb, true_iff, Bool.false_eq_true, false_iff, bI_ne, ieq_iff, ilt_iff, Classical.not_not, ne_eq] at h0
  simp only [and63 b hb, and31 b hb, rem64, rem32, i32_sw, i32_shr, not_true_eq_false] at h0

theorem exc28_no : ∀ q ∈ exc28, ∀ i, ¬ Holds i q :=
  List.forall_mem_cons.2 ⟨exc28_0_no, (fun p h => by cases h)⟩

theorem exc29_0_no (i : Nat → Int) : ¬ Holds i [((.eq (.conv .u64 (.conv .i32 (.ar .shr .u64 (.ar .and .u64 (.var 1 0 18446744073709551615) (.lit 4294967295)) (.ar .and .u64 (.var 2 0 18446744073709551615) (.lit 31))))) (.conv .u64 (.conv .i32 (.ar .shr .u64 (.ar .and .u64 (.var 1 0 18446744073709551615) (.lit 4294967295)) (.ar .rem .u64 (.var 2 0 18446744073709551615) (.lit 32)))))), false), ((.eq (.var 0 0 255) (.lit 43)), true), ((.eq (.var 0 0 255) (.lit 42)), false), ((.eq (.var 0 0 255) (.lit 41)), false), ((.eq (.var 0 0 255) (.lit 40)), false), ((.eq (.var 0 0 255) (.lit 39)), false), ((.eq (.var 0 0 255) (.lit 38)), false), ((.eq (.var 0 0 255) (.lit 37)), false), ((.eq (.var 0 0 255) (.lit 36)), false), ((.lt (.var 0 0 255) (.lit 50)), true), ((.lt (.var 0 0 255) (.lit 36)), false), ((.lt (.var 0 0 255) (.lit 22)), false)] := by
  intro hh
  obtain ⟨a, ea, ha⟩ := var_nat i 1
  obtain ⟨b, eb, hb⟩ := var_nat i 2
  have h0 := hh _ _ (.head _)
  clear hh
  simp only [den_ar, den_conv, den_eq, den_lt, den_lit, ea, eb, true_iff, Bool.false_eq_true, false_iff, bI_ne, ieq_iff, ilt_iff, Classical.not_not, ne_eq] at h0
  simp only [and63 b hb, and31 b hb, rem64, rem32, i32_sw, i32_shr, not_true_eq_false] at h0

theorem exc29_no : ∀ q ∈ exc29, ∀ i, ¬ Holds i q :=
  List.forall_mem_cons.2 ⟨exc29_0_no, (fun p h => by cases h)⟩

theorem exc30_0_no (i : Nat → Int) : ¬ Holds i [((.eq (.conv .u64 (.conv .i32 (.ar .shr .i64 (.conv .i32 (.var 1 0 18446744073709551615)) (.ar .and .u64 (.var 2 0 18446744073709551615) (.lit 31))))) (.conv .u64 (.ar .shr .i64 (.conv .i32 (.var 1 0 18446744073709551615)) (.ar .rem .u64 (.var 2 0 18446744073709551615) (.lit 32))))), false), ((.eq (.var 0 0 255) (.lit 44)), true), ((.eq (.var 0 0 255) (.lit 43)), false), ((.eq (.var 0 0 255) (.lit 42)), false), ((.eq (.var 0 0 255) (.lit 41)), false), ((.eq (.var 0 0 255) (.lit 40)), false), ((.eq (.var 0 0 255) (.lit 39)), false), ((.eq (.var 0 0 255) (.lit 38)), false), ((.eq (.var 0 0 255) (.lit 37)), false), ((.eq (.var 0 0 255) (.lit 36)), false), ((.lt (.var 0 0 255) (.lit 50)), true), ((.lt (.var 0 0 255) (.lit 36)), false), ((.lt (.var 0 0 255) (.lit 22)), false)] := by
  intro hh
  obtain ⟨a, ea, ha⟩ := var_nat i 1
  obtain ⟨b, eb, hb⟩ := var_nat i 2
  have h0 := hh _ _ (.head _)
  clear hh
  simp only [den_ar, den_conv, den_eq, den_lt, den_lit, ea, eb, true_iff, Bool.false_eq_true, false_iff, bI_ne, ieq_iff, ilt_iff, Classical.not_not, ne_eq] at h0
  simp only [and63 b hb, and31 b hb, rem64, rem32, i32_sw, i32_shr, not_true_eq_false] at h0

theorem exc30_no : ∀ q ∈ exc30, ∀ i, ¬ Holds i q :=
  List.forall_mem_cons.2 ⟨exc30_0_no, (fun p h => by cases h)⟩

theorem exc31_no : ∀ q ∈ exc31, ∀ i, ¬ Holds i q :=
  (fun p h => by cases h)

theorem exc32_no : ∀ q ∈ exc32, ∀ i, ¬ Holds i q :=
  (fun p h => by cases h)

theorem exc33_0_no (i : Nat → Int) : ¬ Holds i [((.eq (.conv .u64 (.conv .i32 (.ar .shl .u64 (.var 1 0 18446744073709551615) (.ar .and .u64 (.var 2 0 18446744073709551615) (.lit 31))))) (.conv .u64 (.conv .i32 (.ar .shl .u64 (.var 1 0 18446744073709551615) (.ar .rem .u64 (.var 2 0 18446744073709551615) (.lit 32)))))), false), ((.eq (.var 0 0 255) (.lit 47)), true), ((.eq (.var 0 0 255) (.lit 46)), false), ((.eq (.var 0 0 255) (.lit 45)), false), ((.eq (.var 0 0 255) (.lit 44)), false), ((.eq (.var 0 0 255) (.lit 43)), false), ((.eq (.var 0 0 255) (.lit 42)), false), ((.eq (.var 0 0 255) (.lit 41)), false), ((.eq (.var 0 0 255) (.lit 40)), false), ((.eq (.var 0 0 255) (.lit 39)), false), ((.eq (.var 0 0 255) (.lit 38)), false), ((.eq (.var 0 0 255) (.lit 37)), false), ((.eq (.var 0 0 255) (.lit 36)), false), ((.lt (.var 0 0 255) (.lit 50)), true), ((.lt (.var 0 0 255) (.lit 36)), false), ((.lt (.var 0 0 255) (.lit 22)), false)] := by
  intro hh
  obtain ⟨a, ea, ha⟩ := var_nat i 1
  obtain ⟨b, eb, hb⟩ := var_nat i 2
  have h0 := hh _ _ (.head _)
  clear hh
  simp only [den_ar, den_conv, den_eq, den_lt, den_lit, ea, eb, true_iff, Bool.false_eq_true, false_iff, bI_ne, ieq_iff, ilt_iff, Classical.not_not, ne_eq] at h0
  simp only [and63 b hb, and31 b hb, rem64, rem32, i32_sw, i32_shr, not_true_eq_false] at h0

theorem exc33_no : ∀ q ∈ exc33, ∀ i, ¬ Holds i q :=
  List.forall_mem_cons.2 ⟨exc33_0_no, (fun p h => by cases h)⟩

theorem exc34_0_no (i : Nat → Int) : ¬ Holds i [((.eq (.conv .u64 (.conv .i32 (.ar .shr .u64 (.ar .and .u64 (.var 1 0 18446744073709551615) (.lit 4294967295)) (.ar .and .u64 (.var 2 0 18446744073709551615) (.lit 31))))) (.conv .u64 (.conv .i32 (.ar .shr .u64 (.ar .and .u64 (.var 1 0 18446744073709551615) (.lit 4294967295)) (.ar .rem .u64 (.var 2 0 18446744073709551615) (.lit 32)))))), false), ((.eq (.var 0 0 255) (.lit 48)), true), ((.eq (.var 0 0 255) (.lit 47)), false), ((.eq (.var 0 0 255) (.lit 46)), false), ((.eq (.var 0 0 255) (.lit 45)), false), ((.eq (.var 0 0 255) (.lit 44)), false), ((.eq (.var 0 0 255) (.lit 43)), false), ((.eq (.var 0 0 255) (.lit 42)), false), ((.eq (.var 0 0 255) (.lit 41)), false), ((.eq (.var 0 0 255) (.lit 40)), false), ((.eq (.var 0 0 255) (.lit 39)), false), ((.eq (.var 0 0 255) (.lit 38)), false), ((.eq (.var 0 0 255) (.lit 37)), false), ((.eq (.var 0 0 255) (.lit 36)), false), ((.lt (.var 0 0 255) (.lit 50)), true), ((.lt (.var 0 0 255) (.lit 36)), false), ((.lt (.var 0 0 255) (.lit 22)), false)] := by
  intro hh
  obtain ⟨a, ea, ha⟩ := var_nat i 1
  obtain ⟨b, eb, hb⟩ := var_nat i 2
  have h0 := hh _ _ (.head _)
  clear hh
  simp only [den_ar, den_conv, den_eq, den_lt, den_lit, ea, eb, true_iff, Bool.false_eq_true, false_iff, bI_ne, ieq_iff, ilt_iff, Classical.not_not, ne_eq] at h0
  simp only [and63 b hb, and31 b hb, rem64, rem32, i32_sw, i32_shr, not_true_eq_false] at h0

theorem exc34_no : ∀ q ∈ exc34, ∀ i, ¬ Holds i q :=
  List.forall_mem_cons.2 ⟨exc34_0_no, (fun p h => by cases h)⟩

theorem exc35_0_no (i : Nat → Int) : ¬ Holds i [((.eq (.conv .u64 (.conv .i32 (.ar .shr .i64 (.conv .i32 (.var 1 0 18446744073709551615)) (.ar .and .u64 (.var 2 0 18446744073709551615) (.lit 31))))) (.conv .u64 (.ar .shr .i64 (.conv .i32 (.var 1 0 18446744073709551615)) (.ar .rem .u64 (.var 2 0 18446744073709551615) (.lit 32))))), false), ((.eq (.var 0 0 255) (.lit 49)), true), ((.eq (.var 0 0 255) (.lit 48)), false), ((.eq (.var 0 0 255) (.lit 47)), false), ((.eq (.var 0 0 255) (.lit 46)), false), ((.eq (.var 0 0 255) (.lit 45)), false), ((.eq (.var 0 0 255) (.lit 44)), false), ((.eq (.var 0 0 255) (.lit 43)), false), ((.eq (.var 0 0 255) (.lit 42)), false), ((.eq (.var 0 0 255) (.lit 41)), false), ((.eq (.var 0 0 255) (.lit 40)), false), ((.eq (.var 0 0 255) (.lit 39)), false), ((.eq (.var 0 0 255) (.lit 38)), false), ((.eq (.var 0 0 255) (.lit 37)), false), ((.eq (.var 0 0 255) (.lit 36)), false), ((.lt (.var 0 0 255) (.lit 50)), true), ((.lt (.var 0 0 255) (.lit 36)), false), ((.lt (.var 0 0 255) (.lit 22)), false)] := by
  intro hh
  obtain ⟨a, ea, ha⟩ := var_nat i 1
  obtain ⟨b, eb, hb⟩ := var_nat i 2
  have h0 := hh _ _ (.head _)
  clear hh
  simp only [den_ar, den_conv, den_eq, den_lt, den_lit, ea, eb, true_iff, Bool.false_eq_true, false_iff, bI_ne, ieq_iff, ilt_iff, Classical.not_not, ne_eq] at h0
  simp only [and63 b hb, and31 b hb, rem64, rem32, i32_sw, i32_shr, not_true_eq_false] at h0

theorem exc35_no : ∀ q ∈ exc35, ∀ i, ¬ Holds i q :=
  List.forall_mem_cons.2 ⟨exc35_0_no, (fun p h => by cases h)⟩

theorem exc37_no : ∀ q ∈ exc37, ∀ i, ¬ Holds i q :=
  (fun p h => by cases h)

theorem exc38_no : ∀ q ∈ exc38, ∀ i, ¬ Holds i q :=
  (fun p h => by cases h)

theorem exc39_0_no (i : Nat → Int) : ¬ Holds i [((.eq (.ar .add .u64 (.ar .add .u64 (.ar .mul .u64 (.ar .shr .u64 (.var 1 0 18446744073709551615) (.lit 32)) (.ar .shr .u64 (.var 2 0 18446744073709551615) (.lit 32))) (.ar .shr .u64 (.ar .add .u64 (.ar .mul .u64 (.ar .shr .u64 (.var 1 0 18446744073709551615) (.lit 32)) (.ar .and .u64 (.var 2 0 18446744073709551615) (.lit 4294967295))) (.ar .shr .u64 (.ar .mul .u64 (.ar .and .u64 (.var 1 0 18446744073709551615) (.lit 4294967295)) (.ar .and .u64 (.var 2 0 18446744073709551615) (.lit 4294967295))) (.lit 32))) (.lit 32))) (.ar .shr .u64 (.ar .add .u64 (.ar .and .u64 (.ar .add .u64 (.ar .mul .u64 (.ar .shr .u64 (.var 1 0 18446744073709551615) (.lit 32)) (.var 2 0 18446744073709551615)) (.ar .shr .u64 (.ar .mul .u64 (.ar .and .u64 (.var 1 0 18446744073709551615) (.lit 4294967295)) (.ar .and .u64 (.var 2 0 18446744073709551615) (.lit 4294967295))) (.lit 32))) (.lit 4294967295)) (.ar .mul .u64 (.ar .and .u64 (.var 1 0 18446744073709551615) (.lit 4294967295)) (.ar .shr .u64 (.var 2 0 18446744073709551615) (.lit 32)))) (.lit 32))) (.ar .sub .u64 (.ar .sub .u64 (.ar .add .u64 (.ar .add .u64 (.ar .mul .u64 (.ar .shr .u64 (.var 1 0 18446744073709551615) (.lit 32)) (.ar .shr .u64 (.var 2 0 18446744073709551615) (.lit 32))) (.ar .shr .u64 (.ar .add .u64 (.ar .mul .u64 (.ar .shr .u64 (.var 1 0 18446744073709551615) (.lit 32)) (.ar .and .u64 (.var 2 0 18446744073709551615) (.lit 4294967295))) (.ar .shr .u64 (.ar .mul .u64 (.ar .and .u64 (.var 1 0 18446744073709551615) (.lit 4294967295)) (.ar .and .u64 (.var 2 0 18446744073709551615) (.lit 4294967295))) (.lit 32))) (.lit 32))) (.ar .shr .u64 (.ar .add .u64 (.ar .and .u64 (.ar .add .u64 (.ar .mul .u64 (.ar .shr .u64 (.var 1 0 18446744073709551615) (.lit 32)) (.var 2 0 18446744073709551615)) (.ar .shr .u64 (.ar .mul .u64 (.ar .and .u64 (.var 1 0 18446744073709551615) (.lit 4294967295)) (.ar .and .u64 (.var 2 0 18446744073709551615) (.lit 4294967295))) (.lit 32))) (.lit 4294967295)) (.ar .mul .u64 (.ar .and .u64 (.var 1 0 18446744073709551615) (.lit 4294967295)) (.ar .shr .u64 (.var 2 0 18446744073709551615) (.lit 32)))) (.lit 32))) (.var 2 0 18446744073709551615)) (.var 1 0 18446744073709551615))), false), ((.eq (.ar .shr .u64 (.var 2 0 18446744073709551615) (.lit 63)) (.lit 1)), true), ((.eq (.ar .shr .u64 (.var 1 0 18446744073709551615) (.lit 63)) (.lit 1)), true), ((.lt (.var 2 0 18446744073709551615) (.lit 9223372036854775808)), true), ((.lt (.var 1 0 18446744073709551615) (.lit 9223372036854775808)), true), ((.eq (.var 0 0 255) (.lit 55)), true), ((.eq (.var 0 0 255) (.lit 54)), false), ((.lt (.var 0 0 255) (.lit 67)), true), ((.lt (.var 0 0 255) (.lit 54)), false), ((.lt (.var 0 0 255) (.lit 50)), false), ((.lt (.var 0 0 255) (.lit 36)), false), ((.lt (.var 0 0 255) (.lit 22)), false)] := by
  intro hh
  obtain ⟨a, ea, ha⟩ := var_nat i 1
  obtain ⟨b, eb, hb⟩ := var_nat i 2
  have h1 := hh _ _ (.tail _ (.head _))
  have h2 := hh _ _ (.tail _ (.tail _ (.head _)))
  have h3 := hh _ _ (.tail _ (.tail _ (.tail _ (.head _))))
  have h4 := hh _ _ (.tail _ (.tail _ (.tail _ (.tail _ (.head _)))))
  clear hh
  simp only [den_ar, den_conv, den_eq, den_lt, den_lit, ea, eb, true_iff, Bool.false_eq_true, false_iff, bI_ne, ieq_iff, ilt_iff, Classical.not_not, ne_eq] at h1 h2 h3 h4
  simp only [i64_sg a ha, i64_sg b hb, shr63, sg] at h1 h2 h3 h4
  omega

theorem exc39_1_no (i : Nat → Int) : ¬ Holds i [((.eq (.ar .add .u64 (.ar .add .u64 (.ar .mul .u64 (.ar .shr .u64 (.var 1 0 18446744073709551615) (.lit 32)) (.ar .shr .u64 (.var 2 0 18446744073709551615) (.lit 32))) (.ar .shr .u64 (.ar .add .u64 (.ar .mul .u64 (.ar .shr .u64 (.var 1 0 18446744073709551615) (.lit 32)) (.ar .and .u64 (.var 2 0 18446744073709551615) (.lit 4294967295))) (.ar .shr .u64 (.ar .mul .u64 (.ar .and .u64 (.var 1 0 18446744073709551615) (.lit 4294967295)) (.ar .and .u64 (.var 2 0 18446744073709551615) (.lit 4294967295))) (.lit 32))) (.lit 32))) (.ar .shr .u64 (.ar .add .u64 (.ar .and .u64 (.ar .add .u64 (.ar .mul .u64 (.ar .shr .u64 (.var 1 0 18446744073709551615) (.lit 32)) (.var 2 0 18446744073709551615)) (.ar .shr .u64 (.ar .mul .u64 (.ar .and .u64 (.var 1 0 18446744073709551615) (.lit 4294967295)) (.ar .and .u64 (.var 2 0 18446744073709551615) (.lit 4294967295))) (.lit 32))) (.lit 4294967295)) (.ar .mul .u64 (.ar .and .u64 (.var 1 0 18446744073709551615) (.lit 4294967295)) (.ar .shr .u64 (.var 2 0 18446744073709551615) (.lit 32)))) (.lit 32))) (.ar .sub .u64 (.ar .add .u64 (.ar .add .u64 (.ar .mul .u64 (.ar .shr .u64 (.var 1 0 18446744073709551615) (.lit 32)) (.ar .shr .u64 (.var 2 0 18446744073709551615) (.lit 32))) (.ar .shr .u64 (.ar .add .u64 (.ar .mul .u64 (.ar .shr .u64 (.var 1 0 18446744073709551615) (.lit 32)) (.ar .and .u64 (.var 2 0 18446744073709551615) (.lit 4294967295))) (.ar .shr .u64 (.ar .mul .u64 (.ar .and .u64 (.var 1 0 18446744073709551615) (.lit 4294967295)) (.ar .and .u64 (.var 2 0 18446744073709551615) (.lit 4294967295))) (.lit 32))) (.lit 32))) (.ar .shr .u64 (.ar .add .u64 (.ar .and .u64 (.ar .add .u64 (.ar .mul .u64 (.ar .shr .u64 (.var 1 0 18446744073709551615) (.lit 32)) (.var 2 0 18446744073709551615)) (.ar .shr .u64 (.ar .mul .u64 (.ar .and .u64 (.var 1 0 18446744073709551615) (.lit 4294967295)) (.ar .and .u64 (.var 2 0 18446744073709551615) (.lit 4294967295))) (.lit 32))) (.lit 4294967295)) (.ar .mul .u64 (.ar .and .u64 (.var 1 0 18446744073709551615) (.lit 4294967295)) (.ar .shr .u64 (.var 2 0 18446744073709551615) (.lit 32)))) (.lit 32))) (.var 2 0 18446744073709551615))), false), ((.eq (.ar .shr .u64 (.var 2 0 18446744073709551615) (.lit 63)) (.lit 1)), false), ((.eq (.ar .shr .u64 (.var 1 0 18446744073709551615) (.lit 63)) (.lit 1)), true), ((.lt (.var 2 0 18446744073709551615) (.lit 9223372036854775808)), true), ((.lt (.var 1 0 18446744073709551615) (.lit 9223372036854775808)), true), ((.eq (.var 0 0 255) (.lit 55)), true), ((.eq (.var 0 0 255) (.lit 54)), false), ((.lt (.var 0 0 255) (.lit 67)), true), ((.lt (.var 0 0 255) (.lit 54)), false), ((.lt (.var 0 0 255) (.lit 50)), false), ((.lt (.var 0 0 255) (.lit 36)), false), ((.lt (.var 0 0 255) (.lit 22)), false)] := by
  intro hh
  obtain ⟨a, ea, ha⟩ := var_nat i 1
  obtain ⟨b, eb, hb⟩ := var_nat i 2
  have h1 := hh _ _ (.tail _ (.head _))
  have h2 := hh _ _ (.tail _ (.tail _ (.head _)))
  have h3 := hh _ _ (.tail _ (.tail _ (.tail _ (.head _))))
  have h4 := hh _ _ (.tail _ (.tail _ (.tail _ (.tail _ (.head _)))))
  clear hh
  simp only [den_ar, den_conv, den_eq, den_lt, den_lit, ea, eb, true_iff, Bool.false_eq_true, false_iff, bI_ne, ieq_iff, ilt_iff, Classical.not_not, ne_eq] at h1 h2 h3 h4
  simp only [i64_sg a ha, i64_sg b hb, shr63, sg] at h1 h2 h3 h4
  omega

theorem exc39_2_no (i : Nat → Int) : ¬ Holds i [((.eq (.ar .add .u64 (.ar .add .u64 (.ar .mul .u64 (.ar .shr .u64 (.var 1 0 18446744073709551615) (.lit 32)) (.ar .shr .u64 (.var 2 0 18446744073709551615) (.lit 32))) (.ar .shr .u64 (.ar .add .u64 (.ar .mul .u64 (.ar .shr .u64 (.var 1 0 18446744073709551615) (.lit 32)) (.ar .and .u64 (.var 2 0 18446744073709551615) (.lit 4294967295))) (.ar .shr .u64 (.ar .mul .u64 (.ar .and .u64 (.var 1 0 18446744073709551615) (.lit 4294967295)) (.ar .and .u64 (.var 2 0 18446744073709551615) (.lit 4294967295))) (.lit 32))) (.lit 32))) (.ar .shr .u64 (.ar .add .u64 (.ar .and .u64 (.ar .add .u64 (.ar .mul .u64 (.ar .shr .u64 (.var 1 0 18446744073709551615) (.lit 32)) (.var 2 0 18446744073709551615)) (.ar .shr .u64 (.ar .mul .u64 (.ar .and .u64 (.var 1 0 18446744073709551615) (.lit 4294967295)) (.ar .and .u64 (.var 2 0 18446744073709551615) (.lit 4294967295))) (.lit 32))) (.lit 4294967295)) (.ar .mul .u64 (.ar .and .u64 (.var 1 0 18446744073709551615) (.lit 4294967295)) (.ar .shr .u64 (.var 2 0 18446744073709551615) (.lit 32)))) (.lit 32))) (.ar .sub .u64 (.ar .add .u64 (.ar .add .u64 (.ar .mul .u64 (.ar .shr .u64 (.var 1 0 18446744073709551615) (.lit 32)) (.ar .shr .u64 (.var 2 0 18446744073709551615) (.lit 32))) (.ar .shr .u64 (.ar .add .u64 (.ar .mul .u64 (.ar .shr .u64 (.var 1 0 18446744073709551615) (.lit 32)) (.ar .and .u64 (.var 2 0 18446744073709551615) (.lit 4294967295))) (.ar .shr .u64 (.ar .mul .u64 (.ar .and .u64 (.var 1 0 18446744073709551615) (.lit 4294967295)) (.ar .and .u64 (.var 2 0 18446744073709551615) (.lit 4294967295))) (.lit 32))) (.lit 32))) (.ar .shr .u64 (.ar .add .u64 (.ar .and .u64 (.ar .add .u64 (.ar .mul .u64 (.ar .shr .u64 (.var 1 0 18446744073709551615) (.lit 32)) (.var 2 0 18446744073709551615)) (.ar .shr .u64 (.ar .mul .u64 (.ar .and .u64 (.var 1 0 18446744073709551615) (.lit 4294967295)) (.ar .and .u64 (.var 2 0 18446744073709551615) (.lit 4294967295))) (.lit 32))) (.lit 4294967295)) (.ar .mul .u64 (.ar .and .u64 (.var 1 0 18446744073709551615) (.lit 4294967295)) (.ar .shr .u64 (.var 2 0 18446744073709551615) (.lit 32)))) (.lit 32))) (.var 1 0 18446744073709551615))), false), ((.eq (.ar .shr .u64 (.var 2 0 18446744073709551615) (.lit 63)) (.lit 1)), true), ((.eq (.ar .shr .u64 (.var 1 0 18446744073709551615) (.lit 63)) (.lit 1)), false), ((.lt (.var 2 0 18446744073709551615) (.lit 9223372036854775808)), true), ((.lt (.var 1 0 18446744073709551615) (.lit 9223372036854775808)), true), ((.eq (.var 0 0 255) (.lit 55)), true), ((.eq (.var 0 0 255) (.lit 54)), false), ((.lt (.var 0 0 255) (.lit 67)), true), ((.lt (.var 0 0 255) (.lit 54)), false), ((.lt (.var 0 0 255) (.lit 50)), false), ((.lt (.var 0 0 255) (.lit 36)), false), ((.lt (.var 0 0 255) (.lit 22)), false)] := by
  intro hh
  obtain ⟨a, ea, ha⟩ := var_nat i 1
  obtain ⟨b, eb, hb⟩ := var_nat i 2
  have h1 := hh _ _ (.tail _ (.head _))
  have h2 := hh _ _ (.tail _ (.tail _ (.head _)))
  have h3 := hh _ _ (.tail _ (.tail _ (.tail _ (.head _))))
  have h4 := hh _ _ (.tail _ (.tail _ (.tail _ (.tail _ (.head _)))))
  clear hh
  simp only [den_ar, den_conv, den_eq, den_lt, den_lit, ea, eb, true_iff, Bool.false_eq_true, false_iff, bI_ne, ieq_iff, ilt_iff, Classical.not_not, ne_eq] at h1 h2 h3 h4
  simp only [i64_sg a ha, i64_sg b hb, shr63, sg] at h1 h2 h3 h4
  omega

theorem exc39_no : ∀ q ∈ exc39, ∀ i, ¬ Holds i q :=
  List.forall_mem_cons.2 ⟨exc39_0_no, List.forall_mem_cons.2 ⟨exc39_1_no, List.forall_mem_cons.2 ⟨exc39_2_no, (fun p h => by cases h)⟩⟩⟩

theorem exc40_0_no (i : Nat → Int) : ¬ Holds i [((.eq (.ar .shr .u64 (.var 2 0 18446744073709551615) (.lit 63)) (.lit 1)), true), ((.eq (.ar .shr .u64 (.var 1 0 18446744073709551615) (.lit 63)) (.lit 1)), true), ((.lt (.conv .i64 (.var 2 0 18446744073709551615)) (.lit 0)), true), ((.lt (.var 2 0 18446744073709551615) (.lit 9223372036854775808)), false), ((.lt (.var 1 0 18446744073709551615) (.lit 9223372036854775808)), true), ((.eq (.var 0 0 255) (.lit 55)), true), ((.eq (.var 0 0 255) (.lit 54)), false), ((.lt (.var 0 0 255) (.lit 67)), true), ((.lt (.var 0 0 255) (.lit 54)), false), ((.lt (.var 0 0 255) (.lit 50)), false), ((.lt (.var 0 0 255) (.lit 36)), false), ((.lt (.var 0 0 255) (.lit 22)), false)] := by
  intro hh
  obtain ⟨a, ea, ha⟩ := var_nat i 1
  obtain ⟨b, eb, hb⟩ := var_nat i 2
  have h0 := hh _ _ (.head _)
  have h1 := hh _ _ (.tail _ (.head _))
  have h2 := hh _ _ (.tail _ (.tail _ (.head _)))
  have h3 := hh _ _ (.tail _ (.tail _ (.tail _ (.head _))))
  have h4 := hh _ _ (.tail _ (.tail _ (.tail _ (.tail _ (.head _)))))
  clear hh
  simp only [den_ar, den_conv, den_eq, den_lt, den_lit, ea, eb, true_iff, Bool.false_eq_true, false_iff, bI_ne, ieq_iff, ilt_iff, Classical.not_not, ne_eq] at h0 h1 h2 h3 h4
  simp only [i64_sg a ha, i64_sg b hb, shr63, sg] at h0 h1 h2 h3 h4
  omega

theorem exc40_1_no (i : Nat → Int) : ¬ Holds i [((.eq (.ar .sub .u64 (.ar .add .u64 (.ar .add .u64 (.ar .mul .u64 (.ar .shr .u64 (.var 1 0 18446744073709551615) (.lit 32)) (.ar .shr .u64 (.var 2 0 18446744073709551615) (.lit 32))) (.ar .shr .u64 (.ar .add .u64 (.ar .mul .u64 (.ar .shr .u64 (.var 1 0 18446744073709551615) (.lit 32)) (.ar .and .u64 (.var 2 0 18446744073709551615) (.lit 4294967295))) (.ar .shr .u64 (.ar .mul .u64 (.ar .and .u64 (.var 1 0 18446744073709551615) (.lit 4294967295)) (.ar .and .u64 (.var 2 0 18446744073709551615) (.lit 4294967295))) (.lit 32))) (.lit 32))) (.ar .shr .u64 (.ar .add .u64 (.ar .and .u64 (.ar .add .u64 (.ar .mul .u64 (.ar .shr .u64 (.var 1 0 18446744073709551615) (.lit 32)) (.var 2 0 18446744073709551615)) (.ar .shr .u64 (.ar .mul .u64 (.ar .and .u64 (.var 1 0 18446744073709551615) (.lit 4294967295)) (.ar .and .u64 (.var 2 0 18446744073709551615) (.lit 4294967295))) (.lit 32))) (.lit 4294967295)) (.ar .mul .u64 (.ar .and .u64 (.var 1 0 18446744073709551615) (.lit 4294967295)) (.ar .shr .u64 (.var 2 0 18446744073709551615) (.lit 32)))) (.lit 32))) (.var 1 0 18446744073709551615)) (.ar .sub .u64 (.ar .add .u64 (.ar .add .u64 (.ar .mul .u64 (.ar .shr .u64 (.var 1 0 18446744073709551615) (.lit 32)) (.ar .shr .u64 (.var 2 0 18446744073709551615) (.lit 32))) (.ar .shr .u64 (.ar .add .u64 (.ar .mul .u64 (.ar .shr .u64 (.var 1 0 18446744073709551615) (.lit 32)) (.ar .and .u64 (.var 2 0 18446744073709551615) (.lit 4294967295))) (.ar .shr .u64 (.ar .mul .u64 (.ar .and .u64 (.var 1 0 18446744073709551615) (.lit 4294967295)) (.ar .and .u64 (.var 2 0 18446744073709551615) (.lit 4294967295))) (.lit 32))) (.lit 32))) (.ar .shr .u64 (.ar .add .u64 (.ar .and .u64 (.ar .add .u64 (.ar .mul .u64 (.ar .shr .u64 (.var 1 0 18446744073709551615) (.lit 32)) (.var 2 0 18446744073709551615)) (.ar .shr .u64 (.ar .mul .u64 (.ar .and .u64 (.var 1 0 18446744073709551615) (.lit 4294967295)) (.ar .and .u64 (.var 2 0 18446744073709551615) (.lit 4294967295))) (.lit 32))) (.lit 4294967295)) (.ar .mul .u64 (.ar .and .u64 (.var 1 0 18446744073709551615) (.lit 4294967295)) (.ar .shr .u64 (.var 2 0 18446744073709551615) (.lit 32)))) (.lit 32))) (.var 2 0 18446744073709551615))), false), ((.eq (.ar .shr .u64 (.var 2 0 18446744073709551615) (.lit 63)) (.lit 1)), false), ((.eq (.ar .shr .u64 (.var 1 0 18446744073709551615) (.lit 63)) (.lit 1)), true), ((.lt (.conv .i64 (.var 2 0 18446744073709551615)) (.lit 0)), true), ((.lt (.var 2 0 18446744073709551615) (.lit 9223372036854775808)), false), ((.lt (.var 1 0 18446744073709551615) (.lit 9223372036854775808)), true), ((.eq (.var 0 0 255) (.lit 55)), true), ((.eq (.var 0 0 255) (.lit 54)), false), ((.lt (.var 0 0 255) (.lit 67)), true), ((.lt (.var 0 0 255) (.lit 54)), false), ((.lt (.var 0 0 255) (.lit 50)), false), ((.lt (.var 0 0 255) (.lit 36)), false), ((.lt (.var 0 0 255) (.lit 22)), false)] := by
  intro hh
  obtain ⟨a, ea, ha⟩ := var_nat i 1
  obtain ⟨b, eb, hb⟩ := var_nat i 2
  have h1 := hh _ _ (.tail _ (.head _))
  have h2 := hh _ _ (.tail _ (.tail _ (.head _)))
  have h3 := hh _ _ (.tail _ (.tail _ (.tail _ (.head _))))
  have h4 := hh _ _ (.tail _ (.tail _ (.tail _ (.tail _ (.head _)))))
  have h5 := hh _ _ (.tail _ (.tail _ (.tail _ (.tail _ (.tail _ (.head _))))))
  clear hh
  simp only [den_ar, den_conv, den_eq, den_lt, den_lit, ea, eb, true_iff, Bool.false_eq_true, false_iff, bI_ne, ieq_iff, ilt_iff, Classical.not_not, ne_eq] at h1 h2 h3 h4 h5
  simp only [i64_sg a ha, i64_sg b hb, shr63, sg] at h1 h2 h3 h4 h5
  omega

theorem exc40_2_no (i : Nat → Int) : ¬ Holds i [((.eq (.ar .sub .u64 (.ar .add .u64 (.ar .add .u64 (.ar .mul .u64 (.ar .shr .u64 (.var 1 0 18446744073709551615) (.lit 32)) (.ar .shr .u64 (.var 2 0 18446744073709551615) (.lit 32))) (.ar .shr .u64 (.ar .add .u64 (.ar .mul .u64 (.ar .shr .u64 (.var 1 0 18446744073709551615) (.lit 32)) (.ar .and .u64 (.var 2 0 18446744073709551615) (.lit 4294967295))) (.ar .shr .u64 (.ar .mul .u64 (.ar .and .u64 (.var 1 0 18446744073709551615) (.lit 4294967295)) (.ar .and .u64 (.var 2 0 18446744073709551615) (.lit 4294967295))) (.lit 32))) (.lit 32))) (.ar .shr .u64 (.ar .add .u64 (.ar .and .u64 (.ar .add .u64 (.ar .mul .u64 (.ar .shr .u64 (.var 1 0 18446744073709551615) (.lit 32)) (.var 2 0 18446744073709551615)) (.ar .shr .u64 (.ar .mul .u64 (.ar .and .u64 (.var 1 0 18446744073709551615) (.lit 4294967295)) (.ar .and .u64 (.var 2 0 18446744073709551615) (.lit 4294967295))) (.lit 32))) (.lit 4294967295)) (.ar .mul .u64 (.ar .and .u64 (.var 1 0 18446744073709551615) (.lit 4294967295)) (.ar .shr .u64 (.var 2 0 18446744073709551615) (.lit 32)))) (.lit 32))) (.var 1 0 18446744073709551615)) (.ar .add .u64 (.ar .add .u64 (.ar .mul .u64 (.ar .shr .u64 (.var 1 0 18446744073709551615) (.lit 32)) (.ar .shr .u64 (.var 2 0 18446744073709551615) (.lit 32))) (.ar .shr .u64 (.ar .add .u64 (.ar .mul .u64 (.ar .shr .u64 (.var 1 0 18446744073709551615) (.lit 32)) (.ar .and .u64 (.var 2 0 18446744073709551615) (.lit 4294967295))) (.ar .shr .u64 (.ar .mul .u64 (.ar .and .u64 (.var 1 0 18446744073709551615) (.lit 4294967295)) (.ar .and .u64 (.var 2 0 18446744073709551615) (.lit 4294967295))) (.lit 32))) (.lit 32))) (.ar .shr .u64 (.ar .add .u64 (.ar .and .u64 (.ar .add .u64 (.ar .mul .u64 (.ar .shr .u64 (.var 1 0 18446744073709551615) (.lit 32)) (.var 2 0 18446744073709551615)) (.ar .shr .u64 (.ar .mul .u64 (.ar .and .u64 (.var 1 0 18446744073709551615) (.lit 4294967295)) (.ar .and .u64 (.var 2 0 18446744073709551615) (.lit 4294967295))) (.lit 32))) (.lit 4294967295)) (.ar .mul .u64 (.ar .and .u64 (.var 1 0 18446744073709551615) (.lit 4294967295)) (.ar .shr .u64 (.var 2 0 18446744073709551615) (.lit 32)))) (.lit 32)))), false), ((.eq (.ar .shr .u64 (.var 2 0 18446744073709551615) (.lit 63)) (.lit 1)), false), ((.eq (.ar .shr .u64 (.var 1 0 18446744073709551615) (.lit 63)) (.lit 1)), false), ((.lt (.conv .i64 (.var 2 0 18446744073709551615)) (.lit 0)), true), ((.lt (.var 2 0 18446744073709551615) (.lit 9223372036854775808)), false), ((.lt (.var 1 0 18446744073709551615) (.lit 9223372036854775808)), true), ((.eq (.var 0 0 255) (.lit 55)), true), ((.eq (.var 0 0 255) (.lit 54)), false), ((.lt (.var 0 0 255) (.lit 67)), true), ((.lt (.var 0 0 255) (.lit 54)), false), ((.lt (.var 0 0 255) (.lit 50)), false), ((.lt (.var 0 0 255) (.lit 36)), false), ((.lt (.var 0 0 255) (.lit 22)), false)] := by
  intro hh
  obtain ⟨a, ea, ha⟩ := var_nat i 1
  obtain ⟨b, eb, hb⟩ := var_nat i 2
  have h1 := hh _ _ (.tail _ (.head _))
  have h2 := hh _ _ (.tail _ (.tail _ (.head _)))
  have h3 := hh _ _ (.tail _ (.tail _ (.tail _ (.head _))))
  have h4 := hh _ _ (.tail _ (.tail _ (.tail _ (.tail _ (.head _)))))
  have h5 := hh _ _ (.tail _ (.tail _ (.tail _ (.tail _ (.tail _ (.head _))))))
  clear hh
  simp only [den_ar, den_conv, den_eq, den_lt, den_lit, ea, eb, true_iff, Bool.false_eq_true, false_iff, bI_ne, ieq_iff, ilt_iff, Classical.not_not, ne_eq] at h1 h2 h3 h4 h5
  simp only [i64_sg a ha, i64_sg b hb, shr63, sg] at h1 h2 h3 h4 h5
  omega

theorem exc40_3_no (i : Nat → Int) : ¬ Holds i [((.eq (.ar .add .u64 (.ar .add .u64 (.ar .mul .u64 (.ar .shr .u64 (.var 1 0 18446744073709551615) (.lit 32)) (.ar .shr .u64 (.var 2 0 18446744073709551615) (.lit 32))) (.ar .shr .u64 (.ar .add .u64 (.ar .mul .u64 (.ar .shr .u64 (.var 1 0 18446744073709551615) (.lit 32)) (.ar .and .u64 (.var 2 0 18446744073709551615) (.lit 4294967295))) (.ar .shr .u64 (.ar .mul .u64 (.ar .and .u64 (.var 1 0 18446744073709551615) (.lit 4294967295)) (.ar .and .u64 (.var 2 0 18446744073709551615) (.lit 4294967295))) (.lit 32))) (.lit 32))) (.ar .shr .u64 (.ar .add .u64 (.ar .and .u64 (.ar .add .u64 (.ar .mul .u64 (.ar .shr .u64 (.var 1 0 18446744073709551615) (.lit 32)) (.var 2 0 18446744073709551615)) (.ar .shr .u64 (.ar .mul .u64 (.ar .and .u64 (.var 1 0 18446744073709551615) (.lit 4294967295)) (.ar .and .u64 (.var 2 0 18446744073709551615) (.lit 4294967295))) (.lit 32))) (.lit 4294967295)) (.ar .mul .u64 (.ar .and .u64 (.var 1 0 18446744073709551615) (.lit 4294967295)) (.ar .shr .u64 (.var 2 0 18446744073709551615) (.lit 32)))) (.lit 32))) (.ar .sub .u64 (.ar .sub .u64 (.ar .add .u64 (.ar .add .u64 (.ar .mul .u64 (.ar .shr .u64 (.var 1 0 18446744073709551615) (.lit 32)) (.ar .shr .u64 (.var 2 0 18446744073709551615) (.lit 32))) (.ar .shr .u64 (.ar .add .u64 (.ar .mul .u64 (.ar .shr .u64 (.var 1 0 18446744073709551615) (.lit 32)) (.ar .and .u64 (.var 2 0 18446744073709551615) (.lit 4294967295))) (.ar .shr .u64 (.ar .mul .u64 (.ar .and .u64 (.var 1 0 18446744073709551615) (.lit 4294967295)) (.ar .and .u64 (.var 2 0 18446744073709551615) (.lit 4294967295))) (.lit 32))) (.lit 32))) (.ar .shr .u64 (.ar .add .u64 (.ar .and .u64 (.ar .add .u64 (.ar .mul .u64 (.ar .shr .u64 (.var 1 0 18446744073709551615) (.lit 32)) (.var 2 0 18446744073709551615)) (.ar .shr .u64 (.ar .mul .u64 (.ar .and .u64 (.var 1 0 18446744073709551615) (.lit 4294967295)) (.ar .and .u64 (.var 2 0 18446744073709551615) (.lit 4294967295))) (.lit 32))) (.lit 4294967295)) (.ar .mul .u64 (.ar .and .u64 (.var 1 0 18446744073709551615) (.lit 4294967295)) (.ar .shr .u64 (.var 2 0 18446744073709551615) (.lit 32)))) (.lit 32))) (.var 2 0 18446744073709551615)) (.var 1 0 18446744073709551615))), false), ((.eq (.ar .shr .u64 (.var 2 0 18446744073709551615) (.lit 63)) (.lit 1)), true), ((.eq (.ar .shr .u64 (.var 1 0 18446744073709551615) (.lit 63)) (.lit 1)), true), ((.lt (.conv .i64 (.var 2 0 18446744073709551615)) (.lit 0)), false), ((.lt (.var 2 0 18446744073709551615) (.lit 9223372036854775808)), false), ((.lt (.var 1 0 18446744073709551615) (.lit 9223372036854775808)), true), ((.eq (.var 0 0 255) (.lit 55)), true), ((.eq (.var 0 0 255) (.lit 54)), false), ((.lt (.var 0 0 255) (.lit 67)), true), ((.lt (.var 0 0 255) (.lit 54)), false), ((.lt (.var 0 0 255) (.lit 50)), false), ((.lt (.var 0 0 255) (.lit 36)), false), ((.lt (.var 0 0 255) (.lit 22)), false)] := by
  intro hh
  obtain ⟨a, ea, ha⟩ := var_nat i 1
  obtain ⟨b, eb, hb⟩ := var_nat i 2
  have h1 := hh _ _ (.tail _ (.head _))
  have h2 := hh _ _ (.tail _ (.tail _ (.head _)))
  have h3 := hh _ _ (.tail _ (.tail _ (.tail _ (.head _))))
  have h4 := hh _ _ (.tail _ (.tail _ (.tail _ (.tail _ (.head _)))))
  have h5 := hh _ _ (.tail _ (.tail _ (.tail _ (.tail _ (.tail _ (.head _))))))
  clear hh
  simp only [den_ar, den_conv, den_eq, den_lt, den_lit, ea, eb, true_iff, Bool.false_eq_true, false_iff, bI_ne, ieq_iff, ilt_iff, Classical.not_not, ne_eq] at h1 h2 h3 h4 h5
  simp only [i64_sg a ha, i64_sg b hb, shr63, sg] at h1 h2 h3 h4 h5
  omega

theorem exc40_4_no (i : Nat → Int) : ¬ Holds i [((.eq (.ar .add .u64 (.ar .add .u64 (.ar .mul .u64 (.ar .shr .u64 (.var 1 0 18446744073709551615) (.lit 32)) (.ar .shr .u64 (.var 2 0 18446744073709551615) (.lit 32))) (.ar .shr .u64 (.ar .add .u64 (.ar .mul .u64 (.ar .shr .u64 (.var 1 0 18446744073709551615) (.lit 32)) (.ar .and .u64 (.var 2 0 18446744073709551615) (.lit 4294967295))) (.ar .shr .u64 (.ar .mul .u64 (.ar .and .u64 (.var 1 0 18446744073709551615) (.lit 4294967295)) (.ar .and .u64 (.var 2 0 18446744073709551615) (.lit 4294967295))) (.lit 32))) (.lit 32))) (.ar .shr .u64 (.ar .add .u64 (.ar .and .u64 (.ar .add .u64 (.ar .mul .u64 (.ar .shr .u64 (.var 1 0 18446744073709551615) (.lit 32)) (.var 2 0 18446744073709551615)) (.ar .shr .u64 (.ar .mul .u64 (.ar .and .u64 (.var 1 0 18446744073709551615) (.lit 4294967295)) (.ar .and .u64 (.var 2 0 18446744073709551615) (.lit 4294967295))) (.lit 32))) (.lit 4294967295)) (.ar .mul .u64 (.ar .and .u64 (.var 1 0 18446744073709551615) (.lit 4294967295)) (.ar .shr .u64 (.var 2 0 18446744073709551615) (.lit 32)))) (.lit 32))) (.ar .sub .u64 (.ar .add .u64 (.ar .add .u64 (.ar .mul .u64 (.ar .shr .u64 (.var 1 0 18446744073709551615) (.lit 32)) (.ar .shr .u64 (.var 2 0 18446744073709551615) (.lit 32))) (.ar .shr .u64 (.ar .add .u64 (.ar .mul .u64 (.ar .shr .u64 (.var 1 0 18446744073709551615) (.lit 32)) (.ar .and .u64 (.var 2 0 18446744073709551615) (.lit 4294967295))) (.ar .shr .u64 (.ar .mul .u64 (.ar .and .u64 (.var 1 0 18446744073709551615) (.lit 4294967295)) (.ar .and .u64 (.var 2 0 18446744073709551615) (.lit 4294967295))) (.lit 32))) (.lit 32))) (.ar .shr .u64 (.ar .add .u64 (.ar .and .u64 (.ar .add .u64 (.ar .mul .u64 (.ar .shr .u64 (.var 1 0 18446744073709551615) (.lit 32)) (.var 2 0 18446744073709551615)) (.ar .shr .u64 (.ar .mul .u64 (.ar .and .u64 (.var 1 0 18446744073709551615) (.lit 4294967295)) (.ar .and .u64 (.var 2 0 18446744073709551615) (.lit 4294967295))) (.lit 32))) (.lit 4294967295)) (.ar .mul .u64 (.ar .and .u64 (.var 1 0 18446744073709551615) (.lit 4294967295)) (.ar .shr .u64 (.var 2 0 18446744073709551615) (.lit 32)))) (.lit 32))) (.var 2 0 18446744073709551615))), false), ((.eq (.ar .shr .u64 (.var 2 0 18446744073709551615) (.lit 63)) (.lit 1)), false), ((.eq (.ar .shr .u64 (.var 1 0 18446744073709551615) (.lit 63)) (.lit 1)), true), ((.lt (.conv .i64 (.var 2 0 18446744073709551615)) (.lit 0)), false), ((.lt (.var 2 0 18446744073709551615) (.lit 9223372036854775808)), false), ((.lt (.var 1 0 18446744073709551615) (.lit 9223372036854775808)), true), ((.eq (.var 0 0 255) (.lit 55)), true), ((.eq (.var 0 0 255) (.lit 54)), false), ((.lt (.var 0 0 255) (.lit 67)), true), ((.lt (.var 0 0 255) (.lit 54)), false), ((.lt (.var 0 0 255) (.lit 50)), false), ((.lt (.var 0 0 255) (.lit 36)), false), ((.lt (.var 0 0 255) (.lit 22)), false)] := by
  intro hh
  obtain ⟨a, ea, ha⟩ := var_nat i 1
  obtain ⟨b, eb, hb⟩ := var_nat i 2
  have h1 := hh _ _ (.tail _ (.head _))
  have h2 := hh _ _ (.tail _ (.tail _ (.head _)))
  have h3 := hh _ _ (.tail _ (.tail _ (.tail _ (.head _))))
  have h4 := hh _ _ (.tail _ (.tail _ (.tail _ (.tail _ (.head _)))))
  have h5 := hh _ _ (.tail _ (.tail _ (.tail _ (.tail _ (.tail _ (.head _))))))
  clear hh
  simp only [den_ar, den_conv, den_eq, den_lt, den_lit, ea, eb, true_iff, Bool.false_eq_true, false_iff, bI_ne, ieq_iff, ilt_iff, Classical.not_not, ne_eq] at h1 h2 h3 h4 h5
  simp only [i64_sg a ha, i64_sg b hb, shr63, sg] at h1 h2 h3 h4 h5
  omega

theorem exc40_5_no (i : Nat → Int) : ¬ Holds i [((.eq (.ar .add .u64 (.ar .add .u64 (.ar .mul .u64 (.ar .shr .u64 (.var 1 0 18446744073709551615) (.lit 32)) (.ar .shr .u64 (.var 2 0 18446744073709551615) (.lit 32))) (.ar .shr .u64 (.ar .add .u64 (.ar .mul .u64 (.ar .shr .u64 (.var 1 0 18446744073709551615) (.lit 32)) (.ar .and .u64 (.var 2 0 18446744073709551615) (.lit 4294967295))) (.ar .shr .u64 (.ar .mul .u64 (.ar .and .u64 (.var 1 0 18446744073709551615) (.lit 4294967295)) (.ar .and .u64 (.var 2 0 18446744073709551615) (.lit 4294967295))) (.lit 32))) (.lit 32))) (.ar .shr .u64 (.ar .add .u64 (.ar .and .u64 (.ar .add .u64 (.ar .mul .u64 (.ar .shr .u64 (.var 1 0 18446744073709551615) (.lit 32)) (.var 2 0 18446744073709551615)) (.ar .shr .u64 (.ar .mul .u64 (.ar .and .u64 (.var 1 0 18446744073709551615) (.lit 4294967295)) (.ar .and .u64 (.var 2 0 18446744073709551615) (.lit 4294967295))) (.lit 32))) (.lit 4294967295)) (.ar .mul .u64 (.ar .and .u64 (.var 1 0 18446744073709551615) (.lit 4294967295)) (.ar .shr .u64 (.var 2 0 18446744073709551615) (.lit 32)))) (.lit 32))) (.ar .sub .u64 (.ar .add .u64 (.ar .add .u64 (.ar .mul .u64 (.ar .shr .u64 (.var 1 0 18446744073709551615) (.lit 32)) (.ar .shr .u64 (.var 2 0 18446744073709551615) (.lit 32))) (.ar .shr .u64 (.ar .add .u64 (.ar .mul .u64 (.ar .shr .u64 (.var 1 0 18446744073709551615) (.lit 32)) (.ar .and .u64 (.var 2 0 18446744073709551615) (.lit 4294967295))) (.ar .shr .u64 (.ar .mul .u64 (.ar .and .u64 (.var 1 0 18446744073709551615) (.lit 4294967295)) (.ar .and .u64 (.var 2 0 18446744073709551615) (.lit 4294967295))) (.lit 32))) (.lit 32))) (.ar .shr .u64 (.ar .add .u64 (.ar .and .u64 (.ar .add .u64 (.ar .mul .u64 (.ar .shr .u64 (.var 1 0 18446744073709551615) (.lit 32)) (.var 2 0 18446744073709551615)) (.ar .shr .u64 (.ar .mul .u64 (.ar .and .u64 (.var 1 0 18446744073709551615) (.lit 4294967295)) (.ar .and .u64 (.var 2 0 18446744073709551615) (.lit 4294967295))) (.lit 32))) (.lit 4294967295)) (.ar .mul .u64 (.ar .and .u64 (.var 1 0 18446744073709551615) (.lit 4294967295)) (.ar .shr .u64 (.var 2 0 18446744073709551615) (.lit 32)))) (.lit 32))) (.var 1 0 18446744073709551615))), false), ((.eq (.ar .shr .u64 (.var 2 0 18446744073709551615) (.lit 63)) (.lit 1)), true), ((.eq (.ar .shr .u64 (.var 1 0 18446744073709551615) (.lit 63)) (.lit 1)), false), ((.lt (.conv .i64 (.var 2 0 18446744073709551615)) (.lit 0)), false), ((.lt (.var 2 0 18446744073709551615) (.lit 9223372036854775808)), false), ((.lt (.var 1 0 18446744073709551615) (.lit 9223372036854775808)), true), ((.eq (.var 0 0 255) (.lit 55)), true), ((.eq (.var 0 0 255) (.lit 54)), false), ((.lt (.var 0 0 255) (.lit 67)), true), ((.lt (.var 0 0 255) (.lit 54)), false), ((.lt (.var 0 0 255) (.lit 50)), false), ((.lt (.var 0 0 255) (.lit 36)), false), ((.lt (.var 0 0 255) (.lit 22)), false)] := by
  intro hh
  obtain ⟨a, ea, ha⟩ := var_nat i 1
  obtain ⟨b, eb, hb⟩ := var_nat i 2
  have h1 := hh _ _ (.tail _ (.head _))
  have h2 := hh _ _ (.tail _ (.tail _ (.head _)))
  have h3 := hh _ _ (.tail _ (.tail _ (.tail _ (.head _))))
  have h4 := hh _ _ (.tail _ (.tail _ (.tail _ (.tail _ (.head _)))))
  have h5 := hh _ _ (.tail _ (.tail _ (.tail _ (.tail _ (.tail _ (.head _))))))
  clear hh
  simp only [den_ar, den_conv, den_eq, den_lt, den_lit, ea, eb, true_iff, Bool.false_eq_true, false_iff, bI_ne, ieq_iff, ilt_iff, Classical.not_not, ne_eq] at h1 h2 h3 h4 h5
  simp only [i64_sg a ha, i64_sg b hb, shr63, sg] at h1 h2 h3 h4 h5
  omega

theorem exc40_no : ∀ q ∈ exc40, ∀ i, ¬ Holds i q :=
  List.forall_mem_cons.2 ⟨exc40_0_no, List.forall_mem_cons.2 ⟨exc40_1_no, List.forall_mem_cons.2 ⟨exc40_2_no, List.forall_mem_cons.2 ⟨exc40_3_no, List.forall_mem_cons.2 ⟨exc40_4_no, List.forall_mem_cons.2 ⟨exc40_5_no, (fun p h => by cases h)⟩⟩⟩⟩⟩⟩

theorem exc41_0_no (i : Nat → Int) : ¬ Holds i [((.eq (.ar .shr .u64 (.var 2 0 18446744073709551615) (.lit 63)) (.lit 1)), true), ((.eq (.ar .shr .u64 (.var 1 0 18446744073709551615) (.lit 63)) (.lit 1)), true), ((.lt (.conv .i64 (.var 1 0 18446744073709551615)) (.lit 0)), true), ((.lt (.var 2 0 18446744073709551615) (.lit 9223372036854775808)), true), ((.lt (.var 1 0 18446744073709551615) (.lit 9223372036854775808)), false), ((.eq (.var 0 0 255) (.lit 55)), true), ((.eq (.var 0 0 255) (.lit 54)), false), ((.lt (.var 0 0 255) (.lit 67)), true), ((.lt (.var 0 0 255) (.lit 54)), false), ((.lt (.var 0 0 255) (.lit 50)), false), ((.lt (.var 0 0 255) (.lit 36)), false), ((.lt (.var 0 0 255) (.lit 22)), false)] := by
  intro hh
  obtain ⟨a, ea, ha⟩ := var_nat i 1
  obtain ⟨b, eb, hb⟩ := var_nat i 2
  have h0 := hh _ _ (.head _)
  have h1 := hh _ _ (.tail _ (.head _))
  have h2 := hh _ _ (.tail _ (.tail _ (.head _)))
  have h3 := hh _ _ (.tail _ (.tail _ (.tail _ (.head _))))
  have h4 := hh _ _ (.tail _ (.tail _ (.tail _ (.tail _ (.head _)))))
  clear hh
  simp only [den_ar, den_conv, den_eq, den_lt, den_lit, ea, eb, true_iff, Bool.false_eq_true, false_iff, bI_ne, ieq_iff, ilt_iff, Classical.not_not, ne_eq] at h0 h1 h2 h3 h4
  simp only [i64_sg a ha, i64_sg b hb, shr63, sg] at h0 h1 h2 h3 h4
  omega

theorem exc41_1_no (i : Nat → Int) : ¬ Holds i [((.eq (.ar .sub .u64 (.ar .add .u64 (.ar .add .u64 (.ar .mul .u64 (.ar .shr .u64 (.var 1 0 18446744073709551615) (.lit 32)) (.ar .shr .u64 (.var 2 0 18446744073709551615) (.lit 32))) (.ar .shr .u64 (.ar .add .u64 (.ar .mul .u64 (.ar .shr .u64 (.var 1 0 18446744073709551615) (.lit 32)) (.ar .and .u64 (.var 2 0 18446744073709551615) (.lit 4294967295))) (.ar .shr .u64 (.ar .mul .u64 (.ar .and .u64 (.var 1 0 18446744073709551615) (.lit 4294967295)) (.ar .and .u64 (.var 2 0 18446744073709551615) (.lit 4294967295))) (.lit 32))) (.lit 32))) (.ar .shr .u64 (.ar .add .u64 (.ar .and .u64 (.ar .add .u64 (.ar .mul .u64 (.ar .shr .u64 (.var 1 0 18446744073709551615) (.lit 32)) (.var 2 0 18446744073709551615)) (.ar .shr .u64 (.ar .mul .u64 (.ar .and .u64 (.var 1 0 18446744073709551615) (.lit 4294967295)) (.ar .and .u64 (.var 2 0 18446744073709551615) (.lit 4294967295))) (.lit 32))) (.lit 4294967295)) (.ar .mul .u64 (.ar .and .u64 (.var 1 0 18446744073709551615) (.lit 4294967295)) (.ar .shr .u64 (.var 2 0 18446744073709551615) (.lit 32)))) (.lit 32))) (.var 2 0 18446744073709551615)) (.ar .sub .u64 (.ar .add .u64 (.ar .add .u64 (.ar .mul .u64 (.ar .shr .u64 (.var 1 0 18446744073709551615) (.lit 32)) (.ar .shr .u64 (.var 2 0 18446744073709551615) (.lit 32))) (.ar .shr .u64 (.ar .add .u64 (.ar .mul .u64 (.ar .shr .u64 (.var 1 0 18446744073709551615) (.lit 32)) (.ar .and .u64 (.var 2 0 18446744073709551615) (.lit 4294967295))) (.ar .shr .u64 (.ar .mul .u64 (.ar .and .u64 (.var 1 0 18446744073709551615) (.lit 4294967295)) (.ar .and .u64 (.var 2 0 18446744073709551615) (.lit 4294967295))) (.lit 32))) (.lit 32))) (.ar .shr .u64 (.ar .add .u64 (.ar .and .u64 (.ar .add .u64 (.ar .mul .u64 (.ar .shr .u64 (.var 1 0 18446744073709551615) (.lit 32)) (.var 2 0 18446744073709551615)) (.ar .shr .u64 (.ar .mul .u64 (.ar .and .u64 (.var 1 0 18446744073709551615) (.lit 4294967295)) (.ar .and .u64 (.var 2 0 18446744073709551615) (.lit 4294967295))) (.lit 32))) (.lit 4294967295)) (.ar .mul .u64 (.ar .and .u64 (.var 1 0 18446744073709551615) (.lit 4294967295)) (.ar .shr .u64 (.var 2 0 18446744073709551615) (.lit 32)))) (.lit 32))) (.var 1 0 18446744073709551615))), false), ((.eq (.ar .shr .u64 (.var 2 0 18446744073709551615) (.lit 63)) (.lit 1)), true), ((.eq (.ar .shr .u64 (.var 1 0 18446744073709551615) (.lit 63)) (.lit 1)), false), ((.lt (.conv .i64 (.var 1 0 18446744073709551615)) (.lit 0)), true), ((.lt (.var 2 0 18446744073709551615) (.lit 9223372036854775808)), true), ((.lt (.var 1 0 18446744073709551615) (.lit 9223372036854775808)), false), ((.eq (.var 0 0 255) (.lit 55)), true), ((.eq (.var 0 0 255) (.lit 54)), false), ((.lt (.var 0 0 255) (.lit 67)), true), ((.lt (.var 0 0 255) (.lit 54)), false), ((.lt (.var 0 0 255) (.lit 50)), false), ((.lt (.var 0 0 255) (.lit 36)), false), ((.lt (.var 0 0 255) (.lit 22)), false)] := by
  intro hh
  obtain ⟨a, ea, ha⟩ := var_nat i 1
  obtain ⟨b, eb, hb⟩ := var_nat i 2
  have h1 := hh _ _ (.tail _ (.head _))
  have h2 := hh _ _ (.tail _ (.tail _ (.head _)))
  have h3 := hh _ _ (.tail _ (.tail _ (.tail _ (.head _))))
  have h4 := hh _ _ (.tail _ (.tail _ (.tail _ (.tail _ (.head _)))))
  have h5 := hh _ _ (.tail _ (.tail _ (.tail _ (.tail _ (.tail _ (.head _))))))
  clear hh
  simp only [den_ar, den_conv, den_eq, den_lt, den_lit, ea, eb, true_iff, Bool.false_eq_true, false_iff, bI_ne, ieq_iff, ilt_iff, Classical.not_not, ne_eq] at h1 h2 h3 h4 h5
  simp only [i64_sg a ha, i64_sg b hb, shr63, sg] at h1 h2 h3 h4 h5
  omega

theorem exc41_2_no (i : Nat → Int) : ¬ Holds i [((.eq (.ar .sub .u64 (.ar .add .u64 (.ar .add .u64 (.ar .mul .u64 (.ar .shr .u64 (.var 1 0 18446744073709551615) (.lit 32)) (.ar .shr .u64 (.var 2 0 18446744073709551615) (.lit 32))) (.ar .shr .u64 (.ar .add .u64 (.ar .mul .u64 (.ar .shr .u64 (.var 1 0 18446744073709551615) (.lit 32)) (.ar .and .u64 (.var 2 0 18446744073709551615) (.lit 4294967295))) (.ar .shr .u64 (.ar .mul .u64 (.ar .and .u64 (.var 1 0 18446744073709551615) (.lit 4294967295)) (.ar .and .u64 (.var 2 0 18446744073709551615) (.lit 4294967295))) (.lit 32))) (.lit 32))) (.ar .shr .u64 (.ar .add .u64 (.ar .and .u64 (.ar .add .u64 (.ar .mul .u64 (.ar .shr .u64 (.var 1 0 18446744073709551615) (.lit 32)) (.var 2 0 18446744073709551615)) (.ar .shr .u64 (.ar .mul .u64 (.ar .and .u64 (.var 1 0 18446744073709551615) (.lit 4294967295)) (.ar .and .u64 (.var 2 0 18446744073709551615) (.lit 4294967295))) (.lit 32))) (.lit 4294967295)) (.ar .mul .u64 (.ar .and .u64 (.var 1 0 18446744073709551615) (.lit 4294967295)) (.ar .shr .u64 (.var 2 0 18446744073709551615) (.lit 32)))) (.lit 32))) (.var 2 0 18446744073709551615)) (.ar .add .u64 (.ar .add .u64 (.ar .mul .u64 (.ar .shr .u64 (.var 1 0 18446744073709551615) (.lit 32)) (.ar .shr .u64 (.var 2 0 18446744073709551615) (.lit 32))) (.ar .shr .u64 (.ar .add .u64 (.ar .mul .u64 (.ar .shr .u64 (.var 1 0 18446744073709551615) (.lit 32)) (.ar .and .u64 (.var 2 0 18446744073709551615) (.lit 4294967295))) (.ar .shr .u64 (.ar .mul .u64 (.ar .and .u64 (.var 1 0 18446744073709551615) (.lit 4294967295)) (.ar .and .u64 (.var 2 0 18446744073709551615) (.lit 4294967295))) (.lit 32))) (.lit 32))) (.ar .shr .u64 (.ar .add .u64 (.ar .and .u64 (.ar .add .u64 (.ar .mul .u64 (.ar .shr .u64 (.var 1 0 18446744073709551615) (.lit 32)) (.var 2 0 18446744073709551615)) (.ar .shr .u64 (.ar .mul .u64 (.ar .and .u64 (.var 1 0 18446744073709551615) (.lit 4294967295)) (.ar .and .u64 (.var 2 0 18446744073709551615) (.lit 4294967295))) (.lit 32))) (.lit 4294967295)) (.ar .mul .u64 (.ar .and .u64 (.var 1 0 18446744073709551615) (.lit 4294967295)) (.ar .shr .u64 (.var 2 0 18446744073709551615) (.lit 32)))) (.lit 32)))), false), ((.eq (.ar .shr .u64 (.var 2 0 18446744073709551615) (.lit 63)) (.lit 1)), false), ((.eq (.ar .shr .u64 (.var 1 0 18446744073709551615) (.lit 63)) (.lit 1)), false), ((.lt (.conv .i64 (.var 1 0 18446744073709551615)) (.lit 0)), true), ((.lt (.var 2 0 18446744073709551615) (.lit 9223372036854775808)), true), ((.lt (.var 1 0 18446744073709551615) (.lit 9223372036854775808)), false), ((.eq (.var 0 0 255) (.lit 55)), true), ((.eq (.var 0 0 255) (.lit 54)), false), ((.lt (.var 0 0 255) (.lit 67)), true), ((.lt (.var 0 0 255) (.lit 54)), false), ((.lt (.var 0 0 255) (.lit 50)), false), ((.lt (.var 0 0 255) (.lit 36)), false), ((.lt (.var 0 0 255) (.lit 22)), false)] := by
  intro hh
  obtain ⟨a, ea, ha⟩ := var_nat i 1
  obtain ⟨b, eb, hb⟩ := var_nat i 2
  have h1 := hh _ _ (.tail _ (.head _))
  have h2 := hh _ _ (.tail _ (.tail _ (.head _)))
  have h3 := hh _ _ (.tail _ (.tail _ (.tail _ (.head _))))
  have h4 := hh _ _ (.tail _ (.tail _ (.tail _ (.tail _ (.head _)))))
  have h5 := hh _ _ (.tail _ (.tail _ (.tail _ (.tail _ (.tail _ (.head _))))))
  clear hh
  simp only [den_ar, den_conv, den_eq, den_lt, den_lit, ea, eb, true_iff, Bool.false_eq_true, false_iff, bI_ne, ieq_iff, ilt_iff, Classical.not_not, ne_eq] at h1 h2 h3 h4 h5
  simp only [i64_sg a ha, i64_sg b hb, shr63, sg] at h1 h2 h3 h4 h5
  omega

theorem exc41_3_no (i : Nat → Int) : ¬ Holds i [((.eq (.ar .add .u64 (.ar .add .u64 (.ar .mul .u64 (.ar .shr .u64 (.var 1 0 18446744073709551615) (.lit 32)) (.ar .shr .u64 (.var 2 0 18446744073709551615) (.lit 32))) (.ar .shr .u64 (.ar .add .u64 (.ar .mul .u64 (.ar .shr .u64 (.var 1 0 18446744073709551615) (.lit 32)) (.ar .and .u64 (.var 2 0 18446744073709551615) (.lit 4294967295))) (.ar .shr .u64 (.ar .mul .u64 (.ar .and .u64 (.var 1 0 18446744073709551615) (.lit 4294967295)) (.ar .and .u64 (.var 2 0 18446744073709551615) (.lit 4294967295))) (.lit 32))) (.lit 32))) (.ar .shr .u64 (.ar .add .u64 (.ar .and .u64 (.ar .add .u64 (.ar .mul .u64 (.ar .shr .u64 (.var 1 0 18446744073709551615) (.lit 32)) (.var 2 0 18446744073709551615)) (.ar .shr .u64 (.ar .mul .u64 (.ar .and .u64 (.var 1 0 18446744073709551615) (.lit 4294967295)) (.ar .and .u64 (.var 2 0 18446744073709551615) (.lit 4294967295))) (.lit 32))) (.lit 4294967295)) (.ar .mul .u64 (.ar .and .u64 (.var 1 0 18446744073709551615) (.lit 4294967295)) (.ar .shr .u64 (.var 2 0 18446744073709551615) (.lit 32)))) (.lit 32))) (.ar .sub .u64 (.ar .sub .u64 (.ar .add .u64 (.ar .add .u64 (.ar .mul .u64 (.ar .shr .u64 (.var 1 0 18446744073709551615) (.lit 32)) (.ar .shr .u64 (.var 2 0 18446744073709551615) (.lit 32))) (.ar .shr .u64 (.ar .add .u64 (.ar .mul .u64 (.ar .shr .u64 (.var 1 0 18446744073709551615) (.lit 32)) (.ar .and .u64 (.var 2 0 18446744073709551615) (.lit 4294967295))) (.ar .shr .u64 (.ar .mul .u64 (.ar .and .u64 (.var 1 0 18446744073709551615) (.lit 4294967295)) (.ar .and .u64 (.var 2 0 18446744073709551615) (.lit 4294967295))) (.lit 32))) (.lit 32))) (.ar .shr .u64 (.ar .add .u64 (.ar .and .u64 (.ar .add .u64 (.ar .mul .u64 (.ar .shr .u64 (.var 1 0 18446744073709551615) (.lit 32)) (.var 2 0 18446744073709551615)) (.ar .shr .u64 (.ar .mul .u64 (.ar .and .u64 (.var 1 0 18446744073709551615) (.lit 4294967295)) (.ar .and .u64 (.var 2 0 18446744073709551615) (.lit 4294967295))) (.lit 32))) (.lit 4294967295)) (.ar .mul .u64 (.ar .and .u64 (.var 1 0 18446744073709551615) (.lit 4294967295)) (.ar .shr .u64 (.var 2 0 18446744073709551615) (.lit 32)))) (.lit 32))) (.var 2 0 18446744073709551615)) (.var 1 0 18446744073709551615))), false), ((.eq (.ar .shr .u64 (.var 2 0 18446744073709551615) (.lit 63)) (.lit 1)), true), ((.eq (.ar .shr .u64 (.var 1 0 18446744073709551615) (.lit 63)) (.lit 1)), true), ((.lt (.conv .i64 (.var 1 0 18446744073709551615)) (.lit 0)), false), ((.lt (.var 2 0 18446744073709551615) (.lit 9223372036854775808)), true), ((.lt (.var 1 0 18446744073709551615) (.lit 9223372036854775808)), false), ((.eq (.var 0 0 255) (.lit 55)), true), ((.eq (.var 0 0 255) (.lit 54)), false), ((.lt (.var 0 0 255) (.lit 67)), true), ((.lt (.var 0 0 255) (.lit 54)), false), ((.lt (.var 0 0 255) (.lit 50)), false), ((.lt (.var 0 0 255) (.lit 36)), false), ((.lt (.var 0 0 255) (.lit 22)), false)] := by
  intro hh
  obtain ⟨a, ea, ha⟩ := var_nat i 1
  obtain ⟨b, eb, hb⟩ := var_nat i 2
  have h1 := hh _ _ (.tail _ (.head _))
  have h2 := hh _ _ (.tail _ (.tail _ (.head _)))
  have h3 := hh _ _ (.tail _ (.tail _ (.tail _ (.head _))))
  have h4 := hh _ _ (.tail _ (.tail _ (.tail _ (.tail _ (.head _)))))
  have h5 := hh _ _ (.tail _ (.tail _ (.tail _ (.tail _ (.tail _ (.head _))))))
  clear hh
  simp only [den_ar, den_conv, den_eq, den_lt, den_lit, ea, eb, true_iff, Bool.false_eq_true, false_iff, bI_ne, ieq_iff, ilt_iff, Classical.not_not, ne_eq] at h1 h2 h3 h4 h5
  simp only [i64_sg a ha, i64_sg b hb, shr63, sg] at h1 h2 h3 h4 h5
  omega

theorem exc41_4_no (i : Nat → Int) : ¬ Holds i [((.eq (.ar .add .u64 (.ar .add .u64 (.ar .mul .u64 (.ar .shr .u64 (.var 1 0 18446744073709551615) (.lit 32)) (.ar .shr .u64 (.var 2 0 18446744073709551615) (.lit 32))) (.ar .shr .u64 (.ar .add .u64 (.ar .mul .u64 (.ar .shr .u64 (.var 1 0 18446744073709551615) (.lit 32)) (.ar .and .u64 (.var 2 0 18446744073709551615) (.lit 4294967295))) (.ar .shr .u64 (.ar .mul .u64 (.ar .and .u64 (.var 1 0 18446744073709551615) (.lit 4294967295)) (.ar .and .u64 (.var 2 0 18446744073709551615) (.lit 4294967295))) (.lit 32))) (.lit 32))) (.ar .shr .u64 (.ar .add .u64 (.ar .and .u64 (.ar .add .u64 (.ar .mul .u64 (.ar .shr .u64 (.var 1 0 18446744073709551615) (.lit 32)) (.var 2 0 18446744073709551615)) (.ar .shr .u64 (.ar .mul .u64 (.ar .and .u64 (.var 1 0 18446744073709551615) (.lit 4294967295)) (.ar .and .u64 (.var 2 0 18446744073709551615) (.lit 4294967295))) (.lit 32))) (.lit 4294967295)) (.ar .mul .u64 (.ar .and .u64 (.var 1 0 18446744073709551615) (.lit 4294967295)) (.ar .shr .u64 (.var 2 0 18446744073709551615) (.lit 32)))) (.lit 32))) (.ar .sub .u64 (.ar .add .u64 (.ar .add .u64 (.ar .mul .u64 (.ar .shr .u64 (.var 1 0 18446744073709551615) (.lit 32)) (.ar .shr .u64 (.var 2 0 18446744073709551615) (.lit 32))) (.ar .shr .u64 (.ar .add .u64 (.ar .mul .u64 (.ar .shr .u64 (.var 1 0 18446744073709551615) (.lit 32)) (.ar .and .u64 (.var 2 0 18446744073709551615) (.lit 4294967295))) (.ar .shr .u64 (.ar .mul .u64 (.ar .and .u64 (.var 1 0 18446744073709551615) (.lit 4294967295)) (.ar .and .u64 (.var 2 0 18446744073709551615) (.lit 4294967295))) (.lit 32))) (.lit 32))) (.ar .shr .u64 (.ar .add .u64 (.ar .and .u64 (.ar .add .u64 (.ar .mul .u64 (.ar .shr .u64 (.var 1 0 18446744073709551615) (.lit 32)) (.var 2 0 18446744073709551615)) (.ar .shr .u64 (.ar .mul .u64 (.ar .and .u64 (.var 1 0 18446744073709551615) (.lit 4294967295)) (.ar .and .u64 (.var 2 0 18446744073709551615) (.lit 4294967295))) (.lit 32))) (.lit 4294967295)) (.ar .mul .u64 (.ar .and .u64 (.var 1 0 18446744073709551615) (.lit 4294967295)) (.ar .shr .u64 (.var 2 0 18446744073709551615) (.lit 32)))) (.lit 32))) (.var 2 0 18446744073709551615))), false), ((.eq (.ar .shr .u64 (.var 2 0 18446744073709551615) (.lit 63)) (.lit 1)), false), ((.eq (.ar .shr .u64 (.var 1 0 18446744073709551615) (.lit 63)) (.lit 1)), true), ((.lt (.conv .i64 (.var 1 0 18446744073709551615)) (.lit 0)), false), ((.lt (.var 2 0 18446744073709551615) (.lit 9223372036854775808)), true), ((.lt (.var 1 0 18446744073709551615) (.lit 9223372036854775808)), false), ((.eq (.var 0 0 255) (.lit 55)), true), ((.eq (.var 0 0 255) (.lit 54)), false), ((.lt (.var 0 0 255) (.lit 67)), true), ((.lt (.var 0 0 255) (.lit 54)), false), ((.lt (.var 0 0 255) (.lit 50)), false), ((.lt (.var 0 0 255) (.lit 36)), false), ((.lt (.var 0 0 255) (.lit 22)), false)] := by
  intro hh
  obtain ⟨a, ea, ha⟩ := var_nat i 1
  obtain ⟨b, eb, hb⟩ := var_nat i 2
  have h1 := hh _ _ (.tail _ (.head _))
  have h2 := hh _ _ (.tail _ (.tail _ (.head _)))
  have h3 := hh _ _ (.tail _ (.tail _ (.tail _ (.head _))))
  have h4 := hh _ _ (.tail _ (.tail _ (.tail _ (.tail _ (.head _)))))
  have h5 := hh _ _ (.tail _ (.tail _ (.tail _ (.tail _ (.tail _ (.head _))))))
  clear hh
  simp only [den_ar, den_conv, den_eq, den_lt, den_lit, ea, eb, true_iff, Bool.false_eq_true, false_iff, bI_ne, ieq_iff, ilt_iff, Classical.not_not, ne_eq] at h1 h2 h3 h4 h5
  simp only [i64_sg a ha, i64_sg b hb, shr63, sg] at h1 h2 h3 h4 h5
  omega

theorem exc41_5_no (i : Nat → Int) : ¬ Holds i [((.eq (.ar .add .u64 (.ar .add .u64 (.ar .mul .u64 (.ar .shr .u64 (.var 1 0 18446744073709551615) (.lit 32)) (.ar .shr .u64 (.var 2 0 18446744073709551615) (.lit 32))) (.ar .shr .u64 (.ar .add .u64 (.ar .mul .u64 (.ar .shr .u64 (.var 1 0 18446744073709551615) (.lit 32)) (.ar .and .u64 (.var 2 0 18446744073709551615) (.lit 4294967295))) (.ar .shr .u64 (.ar .mul .u64 (.ar .and .u64 (.var 1 0 18446744073709551615) (.lit 4294967295)) (.ar .and .u64 (.var 2 0 18446744073709551615) (.lit 4294967295))) (.lit 32))) (.lit 32))) (.ar .shr .u64 (.ar .add .u64 (.ar .and .u64 (.ar .add .u64 (.ar .mul .u64 (.ar .shr .u64 (.var 1 0 18446744073709551615) (.lit 32)) (.var 2 0 18446744073709551615)) (.ar .shr .u64 (.ar .mul .u64 (.ar .and .u64 (.var 1 0 18446744073709551615) (.lit 4294967295)) (.ar .and .u64 (.var 2 0 18446744073709551615) (.lit 4294967295))) (.lit 32))) (.lit 4294967295)) (.ar .mul .u64 (.ar .and .u64 (.var 1 0 18446744073709551615) (.lit 4294967295)) (.ar .shr .u64 (.var 2 0 18446744073709551615) (.lit 32)))) (.lit 32))) (.ar .sub .u64 (.ar .add .u64 (.ar .add .u64 (.ar .mul .u64 (.ar .shr .u64 (.var 1 0 18446744073709551615) (.lit 32)) (.ar .shr .u64 (.var 2 0 18446744073709551615) (.lit 32))) (.ar .shr .u64 (.ar .add .u64 (.ar .mul .u64 (.ar .shr .u64 (.var 1 0 18446744073709551615) (.lit 32)) (.ar .and .u64 (.var 2 0 18446744073709551615) (.lit 4294967295))) (.ar .shr .u64 (.ar .mul .u64 (.ar .and .u64 (.var 1 0 18446744073709551615) (.lit 4294967295)) (.ar .and .u64 (.var 2 0 18446744073709551615) (.lit 4294967295))) (.lit 32))) (.lit 32))) (.ar .shr .u64 (.ar .add .u64 (.ar .and .u64 (.ar .add .u64 (.ar .mul .u64 (.ar .shr .u64 (.var 1 0 18446744073709551615) (.lit 32)) (.var 2 0 18446744073709551615)) (.ar .shr .u64 (.ar .mul .u64 (.ar .and .u64 (.var 1 0 18446744073709551615) (.lit 4294967295)) (.ar .and .u64 (.var 2 0 18446744073709551615) (.lit 4294967295))) (.lit 32))) (.lit 4294967295)) (.ar .mul .u64 (.ar .and .u64 (.var 1 0 18446744073709551615) (.lit 4294967295)) (.ar .shr .u64 (.var 2 0 18446744073709551615) (.lit 32)))) (.lit 32))) (.var 1 0 18446744073709551615))), false), ((.eq (.ar .shr .u64 (.var 2 0 18446744073709551615) (.lit 63)) (.lit 1)), true), ((.eq (.ar .shr .u64 (.var 1 0 18446744073709551615) (.lit 63)) (.lit 1)), false), ((.lt (.conv .i64 (.var 1 0 18446744073709551615)) (.lit 0)), false), ((.lt (.var 2 0 18446744073709551615) (.lit 9223372036854775808)), true), ((.lt (.var 1 0 18446744073709551615) (.lit 9223372036854775808)), false), ((.eq (.var 0 0 255) (.lit 55)), true), ((.eq (.var 0 0 255) (.lit 54)), false), ((.lt (.var 0 0 255) (.lit 67)), true), ((.lt (.var 0 0 255) (.lit 54)), false), ((.lt (.var 0 0 255) (.lit 50)), false), ((.lt (.var 0 0 255) (.lit 36)), false), ((.lt (.var 0 0 255) (.lit 22)), false)] := by
  intro hh
  obtain ⟨a, ea, ha⟩ := var_nat i 1
  obtain ⟨b, eb, hb⟩ := var_nat i 2
  have h1 := hh _ _ (.tail _ (.head _))
  have h2 := hh _ _ (.tail _ (.tail _ (.head _)))
  have h3 := hh _ _ (.tail _ (.tail _ (.tail _ (.head _))))
  have h4 := hh _ _ (.tail _ (.tail _ (.tail _ (.tail _ (.head _)))))
  have h5 := hh _ _ (.tail _ (.tail _ (.tail _ (.tail _ (.tail _ (.head _))))))
  clear hh
  simp only [den_ar, den_conv, den_eq, den_lt, den_lit, ea, eb, true_iff, Bool.false_eq_true, false_iff, bI_ne, ieq_iff, ilt_iff, Classical.not_not, ne_eq] at h1 h2 h3 h4 h5
  simp only [i64_sg a ha, i64_sg b hb, shr63, sg] at h1 h2 h3 h4 h5
  omega

theorem exc41_no : ∀ q ∈ exc41, ∀ i, ¬ Holds i q :=
  List.forall_mem_cons.2 ⟨exc41_0_no, List.forall_mem_cons.2 ⟨exc41_1_no, List.forall_mem_cons.2 ⟨exc41_2_no, List.forall_mem_cons.2 ⟨exc41_3_no, List.forall_mem_cons.2 ⟨exc41_4_no, List.forall_mem_cons.2 ⟨exc41_5_no, (fun p h => by cases h)⟩⟩⟩⟩⟩⟩

theorem exc42_0_no (i : Nat → Int) : ¬ Holds i [((.eq (.ar .shr .u64 (.var 2 0 18446744073709551615) (.lit 63)) (.lit 1)), false), ((.eq (.ar .shr .u64 (.var 1 0 18446744073709551615) (.lit 63)) (.lit 1)), true), ((.lt (.conv .i64 (.var 2 0 18446744073709551615)) (.lit 0)), true), ((.lt (.conv .i64 (.var 1 0 18446744073709551615)) (.lit 0)), true), ((.lt (.var 2 0 18446744073709551615) (.lit 9223372036854775808)), false), ((.lt (.var 1 0 18446744073709551615) (.lit 9223372036854775808)), false), ((.eq (.var 0 0 255) (.lit 55)), true), ((.eq (.var 0 0 255) (.lit 54)), false), ((.lt (.var 0 0 255) (.lit 67)), true), ((.lt (.var 0 0 255) (.lit 54)), false), ((.lt (.var 0 0 255) (.lit 50)), false), ((.lt (.var 0 0 255) (.lit 36)), false), ((.lt (.var 0 0 255) (.lit 22)), false)] := by
  intro hh
  obtain ⟨a, ea, ha⟩ := var_nat i 1
  obtain ⟨b, eb, hb⟩ := var_nat i 2
  have h0 := hh _ _ (.head _)
  have h1 := hh _ _ (.tail _ (.head _))
  have h2 := hh _ _ (.tail _ (.tail _ (.head _)))
  have h3 := hh _ _ (.tail _ (.tail _ (.tail _ (.head _))))
  have h4 := hh _ _ (.tail _ (.tail _ (.tail _ (.tail _ (.head _)))))
  have h5 := hh _ _ (.tail _ (.tail _ (.tail _ (.tail _ (.tail _ (.head _))))))
  clear hh
  simp only [den_ar, den_conv, den_eq, den_lt, den_lit, ea, eb, true_iff, Bool.false_eq_true, false_iff, bI_ne, ieq_iff, ilt_iff, Classical.not_not, ne_eq] at h0 h1 h2 h3 h4 h5
  simp only [i64_sg a ha, i64_sg b hb, shr63, sg] at h0 h1 h2 h3 h4 h5
  omega

theorem exc42_1_no (i : Nat → Int) : ¬ Holds i [((.eq (.ar .shr .u64 (.var 2 0 18446744073709551615) (.lit 63)) (.lit 1)), true), ((.eq (.ar .shr .u64 (.var 1 0 18446744073709551615) (.lit 63)) (.lit 1)), false), ((.lt (.conv .i64 (.var 2 0 18446744073709551615)) (.lit 0)), true), ((.lt (.conv .i64 (.var 1 0 18446744073709551615)) (.lit 0)), true), ((.lt (.var 2 0 18446744073709551615) (.lit 9223372036854775808)), false), ((.lt (.var 1 0 18446744073709551615) (.lit 9223372036854775808)), false), ((.eq (.var 0 0 255) (.lit 55)), true), ((.eq (.var 0 0 255) (.lit 54)), false), ((.lt (.var 0 0 255) (.lit 67)), true), ((.lt (.var 0 0 255) (.lit 54)), false), ((.lt (.var 0 0 255) (.lit 50)), false), ((.lt (.var 0 0 255) (.lit 36)), false), ((.lt (.var 0 0 255) (.lit 22)), false)] := by
  intro hh
  obtain ⟨a, ea, ha⟩ := var_nat i 1
  obtain ⟨b, eb, hb⟩ := var_nat i 2
  have h0 := hh _ _ (.head _)
  have h1 := hh _ _ (.tail _ (.head _))
  have h2 := hh _ _ (.tail _ (.tail _ (.head _)))
  have h3 := hh _ _ (.tail _ (.tail _ (.tail _ (.head _))))
  have h4 := hh _ _ (.tail _ (.tail _ (.tail _ (.tail _ (.head _)))))
  have h5 := hh _ _ (.tail _ (.tail _ (.tail _ (.tail _ (.tail _ (.head _))))))
  clear hh
  simp only [den_ar, den_conv, den_eq, den_lt, den_lit, ea, eb, true_iff, Bool.false_eq_true, false_iff, bI_ne, ieq_iff, ilt_iff, Classical.not_not, ne_eq] at h0 h1 h2 h3 h4 h5
  simp only [i64_sg a ha, i64_sg b hb, shr63, sg] at h0 h1 h2 h3 h4 h5
  omega

theorem exc42_2_no (i : Nat → Int) : ¬ Holds i [((.eq (.ar .sub .u64 (.ar .sub .u64 (.ar .add .u64 (.ar .add .u64 (.ar .mul .u64 (.ar .shr .u64 (.var 1 0 18446744073709551615) (.lit 32)) (.ar .shr .u64 (.var 2 0 18446744073709551615) (.lit 32))) (.ar .shr .u64 (.ar .add .u64 (.ar .mul .u64 (.ar .shr .u64 (.var 1 0 18446744073709551615) (.lit 32)) (.ar .and .u64 (.var 2 0 18446744073709551615) (.lit 4294967295))) (.ar .shr .u64 (.ar .mul .u64 (.ar .and .u64 (.var 1 0 18446744073709551615) (.lit 4294967295)) (.ar .and .u64 (.var 2 0 18446744073709551615) (.lit 4294967295))) (.lit 32))) (.lit 32))) (.ar .shr .u64 (.ar .add .u64 (.ar .and .u64 (.ar .add .u64 (.ar .mul .u64 (.ar .shr .u64 (.var 1 0 18446744073709551615) (.lit 32)) (.var 2 0 18446744073709551615)) (.ar .shr .u64 (.ar .mul .u64 (.ar .and .u64 (.var 1 0 18446744073709551615) (.lit 4294967295)) (.ar .and .u64 (.var 2 0 18446744073709551615) (.lit 4294967295))) (.lit 32))) (.lit 4294967295)) (.ar .mul .u64 (.ar .and .u64 (.var 1 0 18446744073709551615) (.lit 4294967295)) (.ar .shr .u64 (.var 2 0 18446744073709551615) (.lit 32)))) (.lit 32))) (.var 2 0 18446744073709551615)) (.var 1 0 18446744073709551615)) (.ar .add .u64 (.ar .add .u64 (.ar .mul .u64 (.ar .shr .u64 (.var 1 0 18446744073709551615) (.lit 32)) (.ar .shr .u64 (.var 2 0 18446744073709551615) (.lit 32))) (.ar .shr .u64 (.ar .add .u64 (.ar .mul .u64 (.ar .shr .u64 (.var 1 0 18446744073709551615) (.lit 32)) (.ar .and .u64 (.var 2 0 18446744073709551615) (.lit 4294967295))) (.ar .shr .u64 (.ar .mul .u64 (.ar .and .u64 (.var 1 0 18446744073709551615) (.lit 4294967295)) (.ar .and .u64 (.var 2 0 18446744073709551615) (.lit 4294967295))) (.lit 32))) (.lit 32))) (.ar .shr .u64 (.ar .add .u64 (.ar .and .u64 (.ar .add .u64 (.ar .mul .u64 (.ar .shr .u64 (.var 1 0 18446744073709551615) (.lit 32)) (.var 2 0 18446744073709551615)) (.ar .shr .u64 (.ar .mul .u64 (.ar .and .u64 (.var 1 0 18446744073709551615) (.lit 4294967295)) (.ar .and .u64 (.var 2 0 18446744073709551615) (.lit 4294967295))) (.lit 32))) (.lit 4294967295)) (.ar .mul .u64 (.ar .and .u64 (.var 1 0 18446744073709551615) (.lit 4294967295)) (.ar .shr .u64 (.var 2 0 18446744073709551615) (.lit 32)))) (.lit 32)))), false), ((.eq (.ar .shr .u64 (.var 2 0 18446744073709551615) (.lit 63)) (.lit 1)), false), ((.eq (.ar .shr .u64 (.var 1 0 18446744073709551615) (.lit 63)) (.lit 1)), false), ((.lt (.conv .i64 (.var 2 0 18446744073709551615)) (.lit 0)), true), ((.lt (.conv .i64 (.var 1 0 18446744073709551615)) (.lit 0)), true), ((.lt (.var 2 0 18446744073709551615) (.lit 9223372036854775808)), false), ((.lt (.var 1 0 18446744073709551615) (.lit 9223372036854775808)), false), ((.eq (.var 0 0 255) (.lit 55)), true), ((.eq (.var 0 0 255) (.lit 54)), false), ((.lt (.var 0 0 255) (.lit 67)), true), ((.lt (.var 0 0 255) (.lit 54)), false), ((.lt (.var 0 0 255) (.lit 50)), false), ((.lt (.var 0 0 255) (.lit 36)), false), ((.lt (.var 0 0 255) (.lit 22)), false)] := by
  intro hh
  obtain ⟨a, ea, ha⟩ := var_nat i 1
  obtain ⟨b, eb, hb⟩ := var_nat i 2
  have h1 := hh _ _ (.tail _ (.head _))
  have h2 := hh _ _ (.tail _ (.tail _ (.head _)))
  have h3 := hh _ _ (.tail _ (.tail _ (.tail _ (.head _))))
  have h4 := hh _ _ (.tail _ (.tail _ (.tail _ (.tail _ (.head _)))))
  have h5 := hh _ _ (.tail _ (.tail _ (.tail _ (.tail _ (.tail _ (.head _))))))
  have h6 := hh _ _ (.tail _ (.tail _ (.tail _ (.tail _ (.tail _ (.tail _ (.head _)))))))
  clear hh
  simp only [den_ar, den_conv, den_eq, den_lt, den_lit, ea, eb, true_iff, Bool.false_eq_true, false_iff, bI_ne, ieq_iff, ilt_iff, Classical.not_not, ne_eq] at h1 h2 h3 h4 h5 h6
  simp only [i64_sg a ha, i64_sg b hb, shr63, sg] at h1 h2 h3 h4 h5 h6
  omega

theorem exc42_3_no (i : Nat → Int) : ¬ Holds i [((.eq (.ar .shr .u64 (.var 2 0 18446744073709551615) (.lit 63)) (.lit 1)), true), ((.eq (.ar .shr .u64 (.var 1 0 18446744073709551615) (.lit 63)) (.lit 1)), true), ((.lt (.conv .i64 (.var 2 0 18446744073709551615)) (.lit 0)), false), ((.lt (.conv .i64 (.var 1 0 18446744073709551615)) (.lit 0)), true), ((.lt (.var 2 0 18446744073709551615) (.lit 9223372036854775808)), false), ((.lt (.var 1 0 18446744073709551615) (.lit 9223372036854775808)), false), ((.eq (.var 0 0 255) (.lit 55)), true), ((.eq (.var 0 0 255) (.lit 54)), false), ((.lt (.var 0 0 255) (.lit 67)), true), ((.lt (.var 0 0 255) (.lit 54)), false), ((.lt (.var 0 0 255) (.lit 50)), false), ((.lt (.var 0 0 255) (.lit 36)), false), ((.lt (.var 0 0 255) (.lit 22)), false)] := by
  intro hh
  obtain ⟨a, ea, ha⟩ := var_nat i 1
  obtain ⟨b, eb, hb⟩ := var_nat i 2
  have h0 := hh _ _ (.head _)
  have h1 := hh _ _ (.tail _ (.head _))
  have h2 := hh _ _ (.tail _ (.tail _ (.head _)))
  have h3 := hh _ _ (.tail _ (.tail _ (.tail _ (.head _))))
  have h4 := hh _ _ (.tail _ (.tail _ (.tail _ (.tail _ (.head _)))))
  have h5 := hh _ _ (.tail _ (.tail _ (.tail _ (.tail _ (.tail _ (.head _))))))
  clear hh
  simp only [den_ar, den_conv, den_eq, den_lt, den_lit, ea, eb, true_iff, Bool.false_eq_true, false_iff, bI_ne, ieq_iff, ilt_iff, Classical.not_not, ne_eq] at h0 h1 h2 h3 h4 h5
  simp only [i64_sg a ha, i64_sg b hb, shr63, sg] at h0 h1 h2 h3 h4 h5
  omega

theorem exc42_4_no (i : Nat → Int) : ¬ Holds i [((.eq (.ar .sub .u64 (.ar .add .u64 (.ar .add .u64 (.ar .mul .u64 (.ar .shr .u64 (.var 1 0 18446744073709551615) (.lit 32)) (.ar .shr .u64 (.var 2 0 18446744073709551615) (.lit 32))) (.ar .shr .u64 (.ar .add .u64 (.ar .mul .u64 (.ar .shr .u64 (.var 1 0 18446744073709551615) (.lit 32)) (.ar .and .u64 (.var 2 0 18446744073709551615) (.lit 4294967295))) (.ar .shr .u64 (.ar .mul .u64 (.ar .and .u64 (.var 1 0 18446744073709551615) (.lit 4294967295)) (.ar .and .u64 (.var 2 0 18446744073709551615) (.lit 4294967295))) (.lit 32))) (.lit 32))) (.ar .shr .u64 (.ar .add .u64 (.ar .and .u64 (.ar .add .u64 (.ar .mul .u64 (.ar .shr .u64 (.var 1 0 18446744073709551615) (.lit 32)) (.var 2 0 18446744073709551615)) (.ar .shr .u64 (.ar .mul .u64 (.ar .and .u64 (.var 1 0 18446744073709551615) (.lit 4294967295)) (.ar .and .u64 (.var 2 0 18446744073709551615) (.lit 4294967295))) (.lit 32))) (.lit 4294967295)) (.ar .mul .u64 (.ar .and .u64 (.var 1 0 18446744073709551615) (.lit 4294967295)) (.ar .shr .u64 (.var 2 0 18446744073709551615) (.lit 32)))) (.lit 32))) (.var 2 0 18446744073709551615)) (.ar .sub .u64 (.ar .add .u64 (.ar .add .u64 (.ar .mul .u64 (.ar .shr .u64 (.var 1 0 18446744073709551615) (.lit 32)) (.ar .shr .u64 (.var 2 0 18446744073709551615) (.lit 32))) (.ar .shr .u64 (.ar .add .u64 (.ar .mul .u64 (.ar .shr .u64 (.var 1 0 18446744073709551615) (.lit 32)) (.ar .and .u64 (.var 2 0 18446744073709551615) (.lit 4294967295))) (.ar .shr .u64 (.ar .mul .u64 (.ar .and .u64 (.var 1 0 18446744073709551615) (.lit 4294967295)) (.ar .and .u64 (.var 2 0 18446744073709551615) (.lit 4294967295))) (.lit 32))) (.lit 32))) (.ar .shr .u64 (.ar .add .u64 (.ar .and .u64 (.ar .add .u64 (.ar .mul .u64 (.ar .shr .u64 (.var 1 0 18446744073709551615) (.lit 32)) (.var 2 0 18446744073709551615)) (.ar .shr .u64 (.ar .mul .u64 (.ar .and .u64 (.var 1 0 18446744073709551615) (.lit 4294967295)) (.ar .and .u64 (.var 2 0 18446744073709551615) (.lit 4294967295))) (.lit 32))) (.lit 4294967295)) (.ar .mul .u64 (.ar .and .u64 (.var 1 0 18446744073709551615) (.lit 4294967295)) (.ar .shr .u64 (.var 2 0 18446744073709551615) (.lit 32)))) (.lit 32))) (.var 1 0 18446744073709551615))), false), ((.eq (.ar .shr .u64 (.var 2 0 18446744073709551615) (.lit 63)) (.lit 1)), true), ((.eq (.ar .shr .u64 (.var 1 0 18446744073709551615) (.lit 63)) (.lit 1)), false), ((.lt (.conv .i64 (.var 2 0 18446744073709551615)) (.lit 0)), false), ((.lt (.conv .i64 (.var 1 0 18446744073709551615)) (.lit 0)), true), ((.lt (.var 2 0 18446744073709551615) (.lit 9223372036854775808)), false), ((.lt (.var 1 0 18446744073709551615) (.lit 9223372036854775808)), false), ((.eq (.var 0 0 255) (.lit 55)), true), ((.eq (.var 0 0 255) (.lit 54)), false), ((.lt (.var 0 0 255) (.lit 67)), true), ((.lt (.var 0 0 255) (.lit 54)), false), ((.lt (.var 0 0 255) (.lit 50)), false), ((.lt (.var 0 0 255) (.lit 36)), false), ((.lt (.var 0 0 255) (.lit 22)), false)] := by
  intro hh
  obtain ⟨a, ea, ha⟩ := var_nat i 1
  obtain ⟨b, eb, hb⟩ := var_nat i 2
  have h1 := hh _ _ (.tail _ (.head _))
  have h2 := hh _ _ (.tail _ (.tail _ (.head _)))
  have h3 := hh _ _ (.tail _ (.tail _ (.tail _ (.head _))))
  have h4 := hh _ _ (.tail _ (.tail _ (.tail _ (.tail _ (.head _)))))
  have h5 := hh _ _ (.tail _ (.tail _ (.tail _ (.tail _ (.tail _ (.head _))))))
  have h6 := hh _ _ (.tail _ (.tail _ (.tail _ (.tail _ (.tail _ (.tail _ (.head _)))))))
  clear hh
  simp only [den_ar, den_conv, den_eq, den_lt, den_lit, ea, eb, true_iff, Bool.false_eq_true, false_iff, bI_ne, ieq_iff, ilt_iff, Classical.not_not, ne_eq] at h1 h2 h3 h4 h5 h6
  simp only [i64_sg a ha, i64_sg b hb, shr63, sg] at h1 h2 h3 h4 h5 h6
  omega

theorem exc42_5_no (i : Nat → Int) : ¬ Holds i [((.eq (.ar .sub .u64 (.ar .add .u64 (.ar .add .u64 (.ar .mul .u64 (.ar .shr .u64 (.var 1 0 18446744073709551615) (.lit 32)) (.ar .shr .u64 (.var 2 0 18446744073709551615) (.lit 32))) (.ar .shr .u64 (.ar .add .u64 (.ar .mul .u64 (.ar .shr .u64 (.var 1 0 18446744073709551615) (.lit 32)) (.ar .and .u64 (.var 2 0 18446744073709551615) (.lit 4294967295))) (.ar .shr .u64 (.ar .mul .u64 (.ar .and .u64 (.var 1 0 18446744073709551615) (.lit 4294967295)) (.ar .and .u64 (.var 2 0 18446744073709551615) (.lit 4294967295))) (.lit 32))) (.lit 32))) (.ar .shr .u64 (.ar .add .u64 (.ar .and .u64 (.ar .add .u64 (.ar .mul .u64 (.ar .shr .u64 (.var 1 0 18446744073709551615) (.lit 32)) (.var 2 0 18446744073709551615)) (.ar .shr .u64 (.ar .mul .u64 (.ar .and .u64 (.var 1 0 18446744073709551615) (.lit 4294967295)) (.ar .and .u64 (.var 2 0 18446744073709551615) (.lit 4294967295))) (.lit 32))) (.lit 4294967295)) (.ar .mul .u64 (.ar .and .u64 (.var 1 0 18446744073709551615) (.lit 4294967295)) (.ar .shr .u64 (.var 2 0 18446744073709551615) (.lit 32)))) (.lit 32))) (.var 2 0 18446744073709551615)) (.ar .add .u64 (.ar .add .u64 (.ar .mul .u64 (.ar .shr .u64 (.var 1 0 18446744073709551615) (.lit 32)) (.ar .shr .u64 (.var 2 0 18446744073709551615) (.lit 32))) (.ar .shr .u64 (.ar .add .u64 (.ar .mul .u64 (.ar .shr .u64 (.var 1 0 18446744073709551615) (.lit 32)) (.ar .and .u64 (.var 2 0 18446744073709551615) (.lit 4294967295))) (.ar .shr .u64 (.ar .mul .u64 (.ar .and .u64 (.var 1 0 18446744073709551615) (.lit 4294967295)) (.ar .and .u64 (.var 2 0 18446744073709551615) (.lit 4294967295))) (.lit 32))) (.lit 32))) (.ar .shr .u64 (.ar .add .u64 (.ar .and .u64 (.ar .add .u64 (.ar .mul .u64 (.ar .shr .u64 (.var 1 0 18446744073709551615) (.lit 32)) (.var 2 0 18446744073709551615)) (.ar .shr .u64 (.ar .mul .u64 (.ar .and .u64 (.var 1 0 18446744073709551615) (.lit 4294967295)) (.ar .and .u64 (.var 2 0 18446744073709551615) (.lit 4294967295))) (.lit 32))) (.lit 4294967295)) (.ar .mul .u64 (.ar .and .u64 (.var 1 0 18446744073709551615) (.lit 4294967295)) (.ar .shr .u64 (.var 2 0 18446744073709551615) (.lit 32)))) (.lit 32)))), false), ((.eq (.ar .shr .u64 (.var 2 0 18446744073709551615) (.lit 63)) (.lit 1)), false), ((.eq (.ar .shr .u64 (.var 1 0 18446744073709551615) (.lit 63)) (.lit 1)), false), ((.lt (.conv .i64 (.var 2 0 18446744073709551615)) (.lit 0)), false), ((.lt (.conv .i64 (.var 1 0 18446744073709551615)) (.lit 0)), true), ((.lt (.var 2 0 18446744073709551615) (.lit 9223372036854775808)), false), ((.lt (.var 1 0 18446744073709551615) (.lit 9223372036854775808)), false), ((.eq (.var 0 0 255) (.lit 55)), true), ((.eq (.var 0 0 255) (.lit 54)), false), ((.lt (.var 0 0 255) (.lit 67)), true), ((.lt (.var 0 0 255) (.lit 54)), false), ((.lt (.var 0 0 255) (.lit 50)), false), ((.lt (.var 0 0 255) (.lit 36)), false), ((.lt (.var 0 0 255) (.lit 22)), false)] := by
  intro hh
  obtain ⟨a, ea, ha⟩ := var_nat i 1
  obtain ⟨b, eb, hb⟩ := var_nat i 2
  have h1 := hh _ _ (.tail _ (.head _))
  have h2 := hh _ _ (.tail _ (.tail _ (.head _)))
  have h3 := hh _ _ (.tail _ (.tail _ (.tail _ (.head _))))
  have h4 := hh _ _ (.tail _ (.tail _ (.tail _ (.tail _ (.head _)))))
  have h5 := hh _ _ (.tail _ (.tail _ (.tail _ (.tail _ (.tail _ (.head _))))))
  have h6 := hh _ _ (.tail _ (.tail _ (.tail _ (.tail _ (.tail _ (.tail _ (.head _)))))))
  clear hh
  simp only [den_ar, den_conv, den_eq, den_lt, den_lit, ea, eb, true_iff, Bool.false_eq_true, false_iff, bI_ne, ieq_iff, ilt_iff, Classical.not_not, ne_eq] at h1 h2 h3 h4 h5 h6
  simp only [i64_sg a ha, i64_sg b hb, shr63, sg] at h1 h2 h3 h4 h5 h6
  omega

theorem exc42_6_no (i : Nat → Int) : ¬ Holds i [((.eq (.ar .shr .u64 (.var 2 0 18446744073709551615) (.lit 63)) (.lit 1)), true), ((.eq (.ar .shr .u64 (.var 1 0 18446744073709551615) (.lit 63)) (.lit 1)), true), ((.lt (.conv .i64 (.var 2 0 18446744073709551615)) (.lit 0)), true), ((.lt (.conv .i64 (.var 1 0 18446744073709551615)) (.lit 0)), false), ((.lt (.var 2 0 18446744073709551615) (.lit 9223372036854775808)), false), ((.lt (.var 1 0 18446744073709551615) (.lit 9223372036854775808)), false), ((.eq (.var 0 0 255) (.lit 55)), true), ((.eq (.var 0 0 255) (.lit 54)), false), ((.lt (.var 0 0 255) (.lit 67)), true), ((.lt (.var 0 0 255) (.lit 54)), false), ((.lt (.var 0 0 255) (.lit 50)), false), ((.lt (.var 0 0 255) (.lit 36)), false), ((.lt (.var 0 0 255) (.lit 22)), false)] := by
  intro hh
  obtain ⟨a, ea, ha⟩ := var_nat i 1
  obtain ⟨b, eb, hb⟩ := var_nat i 2
  have h0 := hh _ _ (.head _)
  have h1 := hh _ _ (.tail _ (.head _))
  have h2 := hh _ _ (.tail _ (.tail _ (.head _)))
  have h3 := hh _ _ (.tail _ (.tail _ (.tail _ (.head _))))
  have h4 := hh _ _ (.tail _ (.tail _ (.tail _ (.tail _ (.head _)))))
  have h5 := hh _ _ (.tail _ (.tail _ (.tail _ (.tail _ (.tail _ (.head _))))))
  clear hh
  simp only [den_ar, den_conv, den_eq, den_lt, den_lit, ea, eb, true_iff, Bool.false_eq_true, false_iff, bI_ne, ieq_iff, ilt_iff, Classical.not_not, ne_eq] at h0 h1 h2 h3 h4 h5
  simp only [i64_sg a ha, i64_sg b hb, shr63, sg] at h0 h1 h2 h3 h4 h5
  omega

theorem exc42_7_no (i : Nat → Int) : ¬ Holds i [((.eq (.ar .sub .u64 (.ar .add .u64 (.ar .add .u64 (.ar .mul .u64 (.ar .shr .u64 (.var 1 0 18446744073709551615) (.lit 32)) (.ar .shr .u64 (.var 2 0 18446744073709551615) (.lit 32))) (.ar .shr .u64 (.ar .add .u64 (.ar .mul .u64 (.ar .shr .u64 (.var 1 0 18446744073709551615) (.lit 32)) (.ar .and .u64 (.var 2 0 18446744073709551615) (.lit 4294967295))) (.ar .shr .u64 (.ar .mul .u64 (.ar .and .u64 (.var 1 0 18446744073709551615) (.lit 4294967295)) (.ar .and .u64 (.var 2 0 18446744073709551615) (.lit 4294967295))) (.lit 32))) (.lit 32))) (.ar .shr .u64 (.ar .add .u64 (.ar .and .u64 (.ar .add .u64 (.ar .mul .u64 (.ar .shr .u64 (.var 1 0 18446744073709551615) (.lit 32)) (.var 2 0 18446744073709551615)) (.ar .shr .u64 (.ar .mul .u64 (.ar .and .u64 (.var 1 0 18446744073709551615) (.lit 4294967295)) (.ar .and .u64 (.var 2 0 18446744073709551615) (.lit 4294967295))) (.lit 32))) (.lit 4294967295)) (.ar .mul .u64 (.ar .and .u64 (.var 1 0 18446744073709551615) (.lit 4294967295)) (.ar .shr .u64 (.var 2 0 18446744073709551615) (.lit 32)))) (.lit 32))) (.var 1 0 18446744073709551615)) (.ar .sub .u64 (.ar .add .u64 (.ar .add .u64 (.ar .mul .u64 (.ar .shr .u64 (.var 1 0 18446744073709551615) (.lit 32)) (.ar .shr .u64 (.var 2 0 18446744073709551615) (.lit 32))) (.ar .shr .u64 (.ar .add .u64 (.ar .mul .u64 (.ar .shr .u64 (.var 1 0 18446744073709551615) (.lit 32)) (.ar .and .u64 (.var 2 0 18446744073709551615) (.lit 4294967295))) (.ar .shr .u64 (.ar .mul .u64 (.ar .and .u64 (.var 1 0 18446744073709551615) (.lit 4294967295)) (.ar .and .u64 (.var 2 0 18446744073709551615) (.lit 4294967295))) (.lit 32))) (.lit 32))) (.ar .shr .u64 (.ar .add .u64 (.ar .and .u64 (.ar .add .u64 (.ar .mul .u64 (.ar .shr .u64 (.var 1 0 18446744073709551615) (.lit 32)) (.var 2 0 18446744073709551615)) (.ar .shr .u64 (.ar .mul .u64 (.ar .and .u64 (.var 1 0 18446744073709551615) (.lit 4294967295)) (.ar .and .u64 (.var 2 0 18446744073709551615) (.lit 4294967295))) (.lit 32))) (.lit 4294967295)) (.ar .mul .u64 (.ar .and .u64 (.var 1 0 18446744073709551615) (.lit 4294967295)) (.ar .shr .u64 (.var 2 0 18446744073709551615) (.lit 32)))) (.lit 32))) (.var 2 0 18446744073709551615))), false), ((.eq (.ar .shr .u64 (.var 2 0 18446744073709551615) (.lit 63)) (.lit 1)), false), ((.eq (.ar .shr .u64 (.var 1 0 18446744073709551615) (.lit 63)) (.lit 1)), true), ((.lt (.conv .i64 (.var 2 0 18446744073709551615)) (.lit 0)), true), ((.lt (.conv .i64 (.var 1 0 18446744073709551615)) (.lit 0)), false), ((.lt (.var 2 0 18446744073709551615) (.lit 9223372036854775808)), false), ((.lt (.var 1 0 18446744073709551615) (.lit 9223372036854775808)), false), ((.eq (.var 0 0 255) (.lit 55)), true), ((.eq (.var 0 0 255) (.lit 54)), false), ((.lt (.var 0 0 255) (.lit 67)), true), ((.lt (.var 0 0 255) (.lit 54)), false), ((.lt (.var 0 0 255) (.lit 50)), false), ((.lt (.var 0 0 255) (.lit 36)), false), ((.lt (.var 0 0 255) (.lit 22)), false)] := by
  intro hh
  obtain ⟨a, ea, ha⟩ := var_nat i 1
  obtain ⟨b, eb, hb⟩ := var_nat i 2
  have h1 := hh _ _ (.tail _ (.head _))
  have h2 := hh _ _ (.tail _ (.tail _ (.head _)))
  have h3 := hh _ _ (.tail _ (.tail _ (.tail _ (.head _))))
  have h4 := hh _ _ (.tail _ (.tail _ (.tail _ (.tail _ (.head _)))))
  have h5 := hh _ _ (.tail _ (.tail _ (.tail _ (.tail _ (.tail _ (.head _))))))
  have h6 := hh _ _ (.tail _ (.tail _ (.tail _ (.tail _ (.tail _ (.tail _ (.head _)))))))
  clear hh
  simp only [den_ar, den_conv, den_eq, den_lt, den_lit, ea, eb, true_iff, Bool.false_eq_true, false_iff, bI_ne, ieq_iff, ilt_iff, Classical.not_not, ne_eq] at h1 h2 h3 h4 h5 h6
  simp only [i64_sg a ha, i64_sg b hb, shr63, sg] at h1 h2 h3 h4 h5 h6
  omega

theorem exc42_8_no (i : Nat → Int) : ¬ Holds i [((.eq (.ar .sub .u64 (.ar .add .u64 (.ar .add .u64 (.ar .mul .u64 (.ar .shr .u64 (.var 1 0 18446744073709551615) (.lit 32)) (.ar .shr .u64 (.var 2 0 18446744073709551615) (.lit 32))) (.ar .shr .u64 (.ar .add .u64 (.ar .mul .u64 (.ar .shr .u64 (.var 1 0 18446744073709551615) (.lit 32)) (.ar .and .u64 (.var 2 0 18446744073709551615) (.lit 4294967295))) (.ar .shr .u64 (.ar .mul .u64 (.ar .and .u64 (.var 1 0 18446744073709551615) (.lit 4294967295)) (.ar .and .u64 (.var 2 0 18446744073709551615) (.lit 4294967295))) (.lit 32))) (.lit 32))) (.ar .shr .u64 (.ar .add .u64 (.ar .and .u64 (.ar .add .u64 (.ar .mul .u64 (.ar .shr .u64 (.var 1 0 18446744073709551615) (.lit 32)) (.var 2 0 18446744073709551615)) (.ar .shr .u64 (.ar .mul .u64 (.ar .and .u64 (.var 1 0 18446744073709551615) (.lit 4294967295)) (.ar .and .u64 (.var 2 0 18446744073709551615) (.lit 4294967295))) (.lit 32))) (.lit 4294967295)) (.ar .mul .u64 (.ar .and .u64 (.var 1 0 18446744073709551615) (.lit 4294967295)) (.ar .shr .u64 (.var 2 0 18446744073709551615) (.lit 32)))) (.lit 32))) (.var 1 0 18446744073709551615)) (.ar .add .u64 (.ar .add .u64 (.ar .mul .u64 (.ar .shr .u64 (.var 1 0 18446744073709551615) (.lit 32)) (.ar .shr .u64 (.var 2 0 18446744073709551615) (.lit 32))) (.ar .shr .u64 (.ar .add .u64 (.ar .mul .u64 (.ar .shr .u64 (.var 1 0 18446744073709551615) (.lit 32)) (.ar .and .u64 (.var 2 0 18446744073709551615) (.lit 4294967295))) (.ar .shr .u64 (.ar .mul .u64 (.ar .and .u64 (.var 1 0 18446744073709551615) (.lit 4294967295)) (.ar .and .u64 (.var 2 0 18446744073709551615) (.lit 4294967295))) (.lit 32))) (.lit 32))) (.ar .shr .u64 (.ar .add .u64 (.ar .and .u64 (.ar .add .u64 (.ar .mul .u64 (.ar .shr .u64 (.var 1 0 18446744073709551615) (.lit 32)) (.var 2 0 18446744073709551615)) (.ar .shr .u64 (.ar .mul .u64 (.ar .and .u64 (.var 1 0 18446744073709551615) (.lit 4294967295)) (.ar .and .u64 (.var 2 0 18446744073709551615) (.lit 4294967295))) (.lit 32))) (.lit 4294967295)) (.ar .mul .u64 (.ar .and .u64 (.var 1 0 18446744073709551615) (.lit 4294967295)) (.ar .shr .u64 (.var 2 0 18446744073709551615) (.lit 32)))) (.lit 32)))), false), ((.eq (.ar .shr .u64 (.var 2 0 18446744073709551615) (.lit 63)) (.lit 1)), false), ((.eq (.ar .shr .u64 (.var 1 0 18446744073709551615) (.lit 63)) (.lit 1)), false), ((.lt (.conv .i64 (.var 2 0 18446744073709551615)) (.lit 0)), true), ((.lt (.conv .i64 (.var 1 0 18446744073709551615)) (.lit 0)), false), ((.lt (.var 2 0 18446744073709551615) (.lit 9223372036854775808)), false), ((.lt (.var 1 0 18446744073709551615) (.lit 9223372036854775808)), false), ((.eq (.var 0 0 255) (.lit 55)), true), ((.eq (.var 0 0 255) (.lit 54)), false), ((.lt (.var 0 0 255) (.lit 67)), true), ((.lt (.var 0 0 255) (.lit 54)), false), ((.lt (.var 0 0 255) (.lit 50)), false), ((.lt (.var 0 0 255) (.lit 36)), false), ((.lt (.var 0 0 255) (.lit 22)), false)] := by
  intro hh
  obtain ⟨a, ea, ha⟩ := var_nat i 1
  obtain ⟨b, eb, hb⟩ := var_nat i 2
  have h1 := hh _ _ (.tail _ (.head _))
  have h2 := hh _ _ (.tail _ (.tail _ (.head _)))
  have h3 := hh _ _ (.tail _ (.tail _ (.tail _ (.head _))))
  have h4 := hh _ _ (.tail _ (.tail _ (.tail _ (.tail _ (.head _)))))
  have h5 := hh _ _ (.tail _ (.tail _ (.tail _ (.tail _ (.tail _ (.head _))))))
  have h6 := hh _ _ (.tail _ (.tail _ (.tail _ (.tail _ (.tail _ (.tail _ (.head _)))))))
  clear hh
  simp only [den_ar, den_conv, den_eq, den_lt, den_lit, ea, eb, true_iff, Bool.false_eq_true, false_iff, bI_ne, ieq_iff, ilt_iff, Classical.not_not, ne_eq] at h1 h2 h3 h4 h5 h6
  simp only [i64_sg a ha, i64_sg b hb, shr63, sg] at h1 h2 h3 h4 h5 h6
  omega

theorem exc42_9_no (i : Nat → Int) : ¬ Holds i [((.eq (.ar .add .u64 (.ar .add .u64 (.ar .mul .u64 (.ar .shr .u64 (.var 1 0 18446744073709551615) (.lit 32)) (.ar .shr .u64 (.var 2 0 18446744073709551615) (.lit 32))) (.ar .shr .u64 (.ar .add .u64 (.ar .mul .u64 (.ar .shr .u64 (.var 1 0 18446744073709551615) (.lit 32)) (.ar .and .u64 (.var 2 0 18446744073709551615) (.lit 4294967295))) (.ar .shr .u64 (.ar .mul .u64 (.ar .and .u64 (.var 1 0 18446744073709551615) (.lit 4294967295)) (.ar .and .u64 (.var 2 0 18446744073709551615) (.lit 4294967295))) (.lit 32))) (.lit 32))) (.ar .shr .u64 (.ar .add .u64 (.ar .and .u64 (.ar .add .u64 (.ar .mul .u64 (.ar .shr .u64 (.var 1 0 18446744073709551615) (.lit 32)) (.var 2 0 18446744073709551615)) (.ar .shr .u64 (.ar .mul .u64 (.ar .and .u64 (.var 1 0 18446744073709551615) (.lit 4294967295)) (.ar .and .u64 (.var 2 0 18446744073709551615) (.lit 4294967295))) (.lit 32))) (.lit 4294967295)) (.ar .mul .u64 (.ar .and .u64 (.var 1 0 18446744073709551615) (.lit 4294967295)) (.ar .shr .u64 (.var 2 0 18446744073709551615) (.lit 32)))) (.lit 32))) (.ar .sub .u64 (.ar .sub .u64 (.ar .add .u64 (.ar .add .u64 (.ar .mul .u64 (.ar .shr .u64 (.var 1 0 18446744073709551615) (.lit 32)) (.ar .shr .u64 (.var 2 0 18446744073709551615) (.lit 32))) (.ar .shr .u64 (.ar .add .u64 (.ar .mul .u64 (.ar .shr .u64 (.var 1 0 18446744073709551615) (.lit 32)) (.ar .and .u64 (.var 2 0 18446744073709551615) (.lit 4294967295))) (.ar .shr .u64 (.ar .mul .u64 (.ar .and .u64 (.var 1 0 18446744073709551615) (.lit 4294967295)) (.ar .and .u64 (.var 2 0 18446744073709551615) (.lit 4294967295))) (.lit 32))) (.lit 32))) (.ar .shr .u64 (.ar .add .u64 (.ar .and .u64 (.ar .add .u64 (.ar .mul .u64 (.ar .shr .u64 (.var 1 0 18446744073709551615) (.lit 32)) (.var 2 0 18446744073709551615)) (.ar .shr .u64 (.ar .mul .u64 (.ar .and .u64 (.var 1 0 18446744073709551615) (.lit 4294967295)) (.ar .and .u64 (.var 2 0 18446744073709551615) (.lit 4294967295))) (.lit 32))) (.lit 4294967295)) (.ar .mul .u64 (.ar .and .u64 (.var 1 0 18446744073709551615) (.lit 4294967295)) (.ar .shr .u64 (.var 2 0 18446744073709551615) (.lit 32)))) (.lit 32))) (.var 2 0 18446744073709551615)) (.var 1 0 18446744073709551615))), false), ((.eq (.ar .shr .u64 (.var 2 0 18446744073709551615) (.lit 63)) (.lit 1)), true), ((.eq (.ar .shr .u64 (.var 1 0 18446744073709551615) (.lit 63)) (.lit 1)), true), ((.lt (.conv .i64 (.var 2 0 18446744073709551615)) (.lit 0)), false), ((.lt (.conv .i64 (.var 1 0 18446744073709551615)) (.lit 0)), false), ((.lt (.var 2 0 18446744073709551615) (.lit 9223372036854775808)), false), ((.lt (.var 1 0 18446744073709551615) (.lit 9223372036854775808)), false), ((.eq (.var 0 0 255) (.lit 55)), true), ((.eq (.var 0 0 255) (.lit 54)), false), ((.lt (.var 0 0 255) (.lit 67)), true), ((.lt (.var 0 0 255) (.lit 54)), false), ((.lt (.var 0 0 255) (.lit 50)), false), ((.lt (.var 0 0 255) (.lit 36)), false), ((.lt (.var 0 0 255) (.lit 22)), false)] := by
  intro hh
  obtain ⟨a, ea, ha⟩ := var_nat i 1
  obtain ⟨b, eb, hb⟩ := var_nat i 2
  have h1 := hh _ _ (.tail _ (.head _))
  have h2 := hh _ _ (.tail _ (.tail _ (.head _)))
  have h3 := hh _ _ (.tail _ (.tail _ (.tail _ (.head _))))
  have h4 := hh _ _ (.tail _ (.tail _ (.tail _ (.tail _ (.head _)))))
  have h5 := hh _ _ (.tail _ (.tail _ (.tail _ (.tail _ (.tail _ (.head _))))))
  have h6 := hh _ _ (.tail _ (.tail _ (.tail _ (.tail _ (.tail _ (.tail _ (.head _)))))))
  clear hh
  simp only [den_ar, den_conv, den_eq, den_lt, den_lit, ea, eb, true_iff, Bool.false_eq_true, false_iff, bI_ne, ieq_iff, ilt_iff, Classical.not_not, ne_eq] at h1 h2 h3 h4 h5 h6
  simp only [i64_sg a ha, i64_sg b hb, shr63, sg] at h1 h2 h3 h4 h5 h6
  omega

theorem exc42_10_no (i : Nat → Int) : ¬ Holds i [((.eq (.ar .add .u64 (.ar .add .u64 (.ar .mul .u64 (.ar .shr .u64 (.var 1 0 18446744073709551615) (.lit 32)) (.ar .shr .u64 (.var 2 0 18446744073709551615) (.lit 32))) (.ar .shr .u64 (.ar .add .u64 (.ar .mul .u64 (.ar .shr .u64 (.var 1 0 18446744073709551615) (.lit 32)) (.ar .and .u64 (.var 2 0 18446744073709551615) (.lit 4294967295))) (.ar .shr .u64 (.ar .mul .u64 (.ar .and .u64 (.var 1 0 18446744073709551615) (.lit 4294967295)) (.ar .and .u64 (.var 2 0 18446744073709551615) (.lit 4294967295))) (.lit 32))) (.lit 32))) (.ar .shr .u64 (.ar .add .u64 (.ar .and .u64 (.ar .add .u64 (.ar .mul .u64 (.ar .shr .u64 (.var 1 0 18446744073709551615) (.lit 32)) (.var 2 0 18446744073709551615)) (.ar .shr .u64 (.ar .mul .u64 (.ar .and .u64 (.var 1 0 18446744073709551615) (.lit 4294967295)) (.ar .and .u64 (.var 2 0 18446744073709551615) (.lit 4294967295))) (.lit 32))) (.lit 4294967295)) (.ar .mul .u64 (.ar .and .u64 (.var 1 0 18446744073709551615) (.lit 4294967295)) (.ar .shr .u64 (.var 2 0 18446744073709551615) (.lit 32)))) (.lit 32))) (.ar .sub .u64 (.ar .add .u64 (.ar .add .u64 (.ar .mul .u64 (.ar .shr .u64 (.var 1 0 18446744073709551615) (.lit 32)) (.ar .shr .u64 (.var 2 0 18446744073709551615) (.lit 32))) (.ar .shr .u64 (.ar .add .u64 (.ar .mul .u64 (.ar .shr .u64 (.var 1 0 18446744073709551615) (.lit 32)) (.ar .and .u64 (.var 2 0 18446744073709551615) (.lit 4294967295))) (.ar .shr .u64 (.ar .mul .u64 (.ar .and .u64 (.var 1 0 18446744073709551615) (.lit 4294967295)) (.ar .and .u64 (.var 2 0 18446744073709551615) (.lit 4294967295))) (.lit 32))) (.lit 32))) (.ar .shr .u64 (.ar .add .u64 (.ar .and .u64 (.ar .add .u64 (.ar .mul .u64 (.ar .shr .u64 (.var 1 0 18446744073709551615) (.lit 32)) (.var 2 0 18446744073709551615)) (.ar .shr .u64 (.ar .mul .u64 (.ar .and .u64 (.var 1 0 18446744073709551615) (.lit 4294967295)) (.ar .and .u64 (.var 2 0 18446744073709551615) (.lit 4294967295))) (.lit 32))) (.lit 4294967295)) (.ar .mul .u64 (.ar .and .u64 (.var 1 0 18446744073709551615) (.lit 4294967295)) (.ar .shr .u64 (.var 2 0 18446744073709551615) (.lit 32)))) (.lit 32))) (.var 2 0 18446744073709551615))), false), ((.eq (.ar .shr .u64 (.var 2 0 18446744073709551615) (.lit 63)) (.lit 1)), false), ((.eq (.ar .shr .u64 (.var 1 0 18446744073709551615) (.lit 63)) (.lit 1)), true), ((.lt (.conv .i64 (.var 2 0 18446744073709551615)) (.lit 0)), false), ((.lt (.conv .i64 (.var 1 0 18446744073709551615)) (.lit 0)), false), ((.lt (.var 2 0 18446744073709551615) (.lit 9223372036854775808)), false), ((.lt (.var 1 0 18446744073709551615) (.lit 9223372036854775808)), false), ((.eq (.var 0 0 255) (.lit 55)), true), ((.eq (.var 0 0 255) (.lit 54)), false), ((.lt (.var 0 0 255) (.lit 67)), true), ((.lt (.var 0 0 255) (.lit 54)), false), ((.lt (.var 0 0 255) (.lit 50)), false), ((.lt (.var 0 0 255) (.lit 36)), false), ((.lt (.var 0 0 255) (.lit 22)), false)] := by
  intro hh
  obtain ⟨a, ea, ha⟩ := var_nat i 1
  obtain ⟨b, eb, hb⟩ := var_nat i 2
  have h1 := hh _ _ (.tail _ (.head _))
  have h2 := hh _ _ (.tail _ (.tail _ (.head _)))
  have h3 := hh _ _ (.tail _ (.tail _ (.tail _ (.head _))))
  have h4 := hh _ _ (.tail _ (.tail _ (.tail _ (.tail _ (.head _)))))
  have h5 := hh _ _ (.tail _ (.tail _ (.tail _ (.tail _ (.tail _ (.head _))))))
  have h6 := hh _ _ (.tail _ (.tail _ (.tail _ (.tail _ (.tail _ (.tail _ (.head _)))))))
  clear hh
  simp only [den_ar, den_conv, den_eq, den_lt, den_lit, ea, eb, true_iff, Bool.false_eq_true, false_iff, bI_ne, ieq_iff, ilt_iff, Classical.not_not, ne_eq] at h1 h2 h3 h4 h5 h6
  simp only [i64_sg a ha, i64_sg b hb, shr63, sg] at h1 h2 h3 h4 h5 h6
  omega

theorem exc42_11_no (i : Nat → Int) : ¬ Holds i [((.eq (.ar .add .u64 (.ar .add .u64 (.ar .mul .u64 (.ar .shr .u64 (.var 1 0 18446744073709551615) (.lit 32)) (.ar .shr .u64 (.var 2 0 18446744073709551615) (.lit 32))) (.ar .shr .u64 (.ar .add .u64 (.ar .mul .u64 (.ar .shr .u64 (.var 1 0 18446744073709551615) (.lit 32)) (.ar .and .u64 (.var 2 0 18446744073709551615) (.lit 4294967295))) (.ar .shr .u64 (.ar .mul .u64 (.ar .and .u64 (.var 1 0 18446744073709551615) (.lit 4294967295)) (.ar .and .u64 (.var 2 0 18446744073709551615) (.lit 4294967295))) (.lit 32))) (.lit 32))) (.ar .shr .u64 (.ar .add .u64 (.ar .and .u64 (.ar .add .u64 (.ar .mul .u64 (.ar .shr .u64 (.var 1 0 18446744073709551615) (.lit 32)) (.var 2 0 18446744073709551615)) (.ar .shr .u64 (.ar .mul .u64 (.ar .and .u64 (.var 1 0 18446744073709551615) (.lit 4294967295)) (.ar .and .u64 (.var 2 0 18446744073709551615) (.lit 4294967295))) (.lit 32))) (.lit 4294967295)) (.ar .mul .u64 (.ar .and .u64 (.var 1 0 18446744073709551615) (.lit 4294967295)) (.ar .shr .u64 (.var 2 0 18446744073709551615) (.lit 32)))) (.lit 32))) (.ar .sub .u64 (.ar .add .u64 (.ar .add .u64 (.ar .mul .u64 (.ar .shr .u64 (.var 1 0 18446744073709551615) (.lit 32)) (.ar .shr .u64 (.var 2 0 18446744073709551615) (.lit 32))) (.ar .shr .u64 (.ar .add .u64 (.ar .mul .u64 (.ar .shr .u64 (.var 1 0 18446744073709551615) (.lit 32)) (.ar .and .u64 (.var 2 0 18446744073709551615) (.lit 4294967295))) (.ar .shr .u64 (.ar .mul .u64 (.ar .and .u64 (.var 1 0 18446744073709551615) (.lit 4294967295)) (.ar .and .u64 (.var 2 0 18446744073709551615) (.lit 4294967295))) (.lit 32))) (.lit 32))) (.ar .shr .u64 (.ar .add .u64 (.ar .and .u64 (.ar .add .u64 (.ar .mul .u64 (.ar .shr .u64 (.var 1 0 18446744073709551615) (.lit 32)) (.var 2 0 18446744073709551615)) (.ar .shr .u64 (.ar .mul .u64 (.ar .and .u64 (.var 1 0 18446744073709551615) (.lit 4294967295)) (.ar .and .u64 (.var 2 0 18446744073709551615) (.lit 4294967295))) (.lit 32))) (.lit 4294967295)) (.ar .mul .u64 (.ar .and .u64 (.var 1 0 18446744073709551615) (.lit 4294967295)) (.ar .shr .u64 (.var 2 0 18446744073709551615) (.lit 32)))) (.lit 32))) (.var 1 0 18446744073709551615))), false), ((.eq (.ar .shr .u64 (.var 2 0 18446744073709551615) (.lit 63)) (.lit 1)), true), ((.eq (.ar .shr .u64 (.var 1 0 18446744073709551615) (.lit 63)) (.lit 1)), false), ((.lt (.conv .i64 (.var 2 0 18446744073709551615)) (.lit 0)), false), ((.lt (.conv .i64 (.var 1 0 18446744073709551615)) (.lit 0)), false), ((.lt (.var 2 0 18446744073709551615) (.lit 9223372036854775808)), false), ((.lt (.var 1 0 18446744073709551615) (.lit 9223372036854775808)), false), ((.eq (.var 0 0 255) (.lit 55)), true), ((.eq (.var 0 0 255) (.lit 54)), false), ((.lt (.var 0 0 255) (.lit 67)), true), ((.lt (.var 0 0 255) (.lit 54)), false), ((.lt (.var 0 0 255) (.lit 50)), false), ((.lt (.var 0 0 255) (.lit 36)), false), ((.lt (.var 0 0 255) (.lit 22)), false)] := by
  intro hh
  obtain ⟨a, ea, ha⟩ := var_nat i 1
  obtain ⟨b, eb, hb⟩ := var_nat i 2
  have h1 := hh _ _ (.tail _ (.head _))
  have h2 := hh _ _ (.tail _ (.tail _ (.head _)))
  have h3 := hh _ _ (.tail _ (.tail _ (.tail _ (.head _))))
  have h4 := hh _ _ (.tail _ (.tail _ (.tail _ (.tail _ (.head _)))))
  have h5 := hh _ _ (.tail _ (.tail _ (.tail _ (.tail _ (.tail _ (.head _))))))
  have h6 := hh _ _ (.tail _ (.tail _ (.tail _ (.tail _ (.tail _ (.tail _ (.head _)))))))
  clear hh
  simp only [den_ar, den_conv, den_eq, den_lt, den_lit, ea, eb, true_iff, Bool.false_eq_true, false_iff, bI_ne, ieq_iff, ilt_iff, Classical.not_not, ne_eq] at h1 h2 h3 h4 h5 h6
  simp only [i64_sg a ha, i64_sg b hb, shr63, sg] at h1 h2 h3 h4 h5 h6
  omega

theorem exc42_no : ∀ q ∈ exc42, ∀ i, ¬ Holds i q :=
  List.forall_mem_cons.2 ⟨exc42_0_no, List.forall_mem_cons.2 ⟨exc42_1_no, List.forall_mem_cons.2 ⟨exc42_2_no, List.forall_mem_cons.2 ⟨exc42_3_no, List.forall_mem_cons.2 ⟨exc42_4_no, List.forall_mem_cons.2 ⟨exc42_5_no, List.forall_mem_cons.2 ⟨exc42_6_no, List.forall_mem_cons.2 ⟨exc42_7_no, List.forall_mem_cons.2 ⟨exc42_8_no, List.forall_mem_cons.2 ⟨exc42_9_no, List.forall_mem_cons.2 ⟨exc42_10_no, List.forall_mem_cons.2 ⟨exc42_11_no, (fun p h => by cases h)⟩⟩⟩⟩⟩⟩⟩⟩⟩⟩⟩⟩

theorem exc43_0_no (i : Nat → Int) : ¬ Holds i [((.eq (.ar .add .u64 (.ar .add .u64 (.ar .mul .u64 (.ar .shr .u64 (.var 1 0 18446744073709551615) (.lit 32)) (.ar .shr .u64 (.var 2 0 18446744073709551615) (.lit 32))) (.ar .shr .u64 (.ar .add .u64 (.ar .mul .u64 (.ar .shr .u64 (.var 1 0 18446744073709551615) (.lit 32)) (.ar .and .u64 (.var 2 0 18446744073709551615) (.lit 4294967295))) (.ar .shr .u64 (.ar .mul .u64 (.ar .and .u64 (.var 1 0 18446744073709551615) (.lit 4294967295)) (.ar .and .u64 (.var 2 0 18446744073709551615) (.lit 4294967295))) (.lit 32))) (.lit 32))) (.ar .shr .u64 (.ar .add .u64 (.ar .and .u64 (.ar .add .u64 (.ar .mul .u64 (.ar .shr .u64 (.var 1 0 18446744073709551615) (.lit 32)) (.var 2 0 18446744073709551615)) (.ar .shr .u64 (.ar .mul .u64 (.ar .and .u64 (.var 1 0 18446744073709551615) (.lit 4294967295)) (.ar .and .u64 (.var 2 0 18446744073709551615) (.lit 4294967295))) (.lit 32))) (.lit 4294967295)) (.ar .mul .u64 (.ar .and .u64 (.var 1 0 18446744073709551615) (.lit 4294967295)) (.ar .shr .u64 (.var 2 0 18446744073709551615) (.lit 32)))) (.lit 32))) (.ar .sub .u64 (.ar .add .u64 (.ar .add .u64 (.ar .mul .u64 (.ar .shr .u64 (.var 1 0 18446744073709551615) (.lit 32)) (.ar .shr .u64 (.var 2 0 18446744073709551615) (.lit 32))) (.ar .shr .u64 (.ar .add .u64 (.ar .mul .u64 (.ar .shr .u64 (.var 1 0 18446744073709551615) (.lit 32)) (.ar .and .u64 (.var 2 0 18446744073709551615) (.lit 4294967295))) (.ar .shr .u64 (.ar .mul .u64 (.ar .and .u64 (.var 1 0 18446744073709551615) (.lit 4294967295)) (.ar .and .u64 (.var 2 0 18446744073709551615) (.lit 4294967295))) (.lit 32))) (.lit 32))) (.ar .shr .u64 (.ar .add .u64 (.ar .and .u64 (.ar .add .u64 (.ar .mul .u64 (.ar .shr .u64 (.var 1 0 18446744073709551615) (.lit 32)) (.var 2 0 18446744073709551615)) (.ar .shr .u64 (.ar .mul .u64 (.ar .and .u64 (.var 1 0 18446744073709551615) (.lit 4294967295)) (.ar .and .u64 (.var 2 0 18446744073709551615) (.lit 4294967295))) (.lit 32))) (.lit 4294967295)) (.ar .mul .u64 (.ar .and .u64 (.var 1 0 18446744073709551615) (.lit 4294967295)) (.ar .shr .u64 (.var 2 0 18446744073709551615) (.lit 32)))) (.lit 32))) (.var 2 0 18446744073709551615))), false), ((.eq (.ar .shr .u64 (.var 1 0 18446744073709551615) (.lit 63)) (.lit 1)), true), ((.lt (.var 2 0 18446744073709551615) (.lit 9223372036854775808)), true), ((.lt (.var 1 0 18446744073709551615) (.lit 9223372036854775808)), true), ((.eq (.var 0 0 255) (.lit 56)), true), ((.eq (.var 0 0 255) (.lit 55)), false), ((.eq (.var 0 0 255) (.lit 54)), false), ((.lt (.var 0 0 255) (.lit 67)), true), ((.lt (.var 0 0 255) (.lit 54)), false), ((.lt (.var 0 0 255) (.lit 50)), false), ((.lt (.var 0 0 255) (.lit 36)), false), ((.lt (.var 0 0 255) (.lit 22)), false)] := by
  intro hh
  obtain ⟨a, ea, ha⟩ := var_nat i 1
  obtain ⟨b, eb, hb⟩ := var_nat i 2
  have h1 := hh _ _ (.tail _ (.head _))
  have h2 := hh _ _ (.tail _ (.tail _ (.head _)))
  have h3 := hh _ _ (.tail _ (.tail _ (.tail _ (.head _))))
  clear hh
  simp only [den_ar, den_conv, den_eq, den_lt, den_lit, ea, eb, true_iff, Bool.false_eq_true, false_iff, bI_ne, ieq_iff, ilt_iff, Classical.not_not, ne_eq] at h1 h2 h3
  simp only [i64_sg a ha, i64_sg b hb, shr63, sg] at h1 h2 h3
  omega

theorem exc43_no : ∀ q ∈ exc43, ∀ i, ¬ Holds i q :=
  List.forall_mem_cons.2 ⟨exc43_0_no, (fun p h => by cases h)⟩

theorem exc44_0_no (i : Nat → Int) : ¬ Holds i [((.eq (.ar .add .u64 (.ar .add .u64 (.ar .mul .u64 (.ar .shr .u64 (.var 1 0 18446744073709551615) (.lit 32)) (.ar .shr .u64 (.var 2 0 18446744073709551615) (.lit 32))) (.ar .shr .u64 (.ar .add .u64 (.ar .mul .u64 (.ar .shr .u64 (.var 1 0 18446744073709551615) (.lit 32)) (.ar .and .u64 (.var 2 0 18446744073709551615) (.lit 4294967295))) (.ar .shr .u64 (.ar .mul .u64 (.ar .and .u64 (.var 1 0 18446744073709551615) (.lit 4294967295)) (.ar .and .u64 (.var 2 0 18446744073709551615) (.lit 4294967295))) (.lit 32))) (.lit 32))) (.ar .shr .u64 (.ar .add .u64 (.ar .and .u64 (.ar .add .u64 (.ar .mul .u64 (.ar .shr .u64 (.var 1 0 18446744073709551615) (.lit 32)) (.var 2 0 18446744073709551615)) (.ar .shr .u64 (.ar .mul .u64 (.ar .and .u64 (.var 1 0 18446744073709551615) (.lit 4294967295)) (.ar .and .u64 (.var 2 0 18446744073709551615) (.lit 4294967295))) (.lit 32))) (.lit 4294967295)) (.ar .mul .u64 (.ar .and .u64 (.var 1 0 18446744073709551615) (.lit 4294967295)) (.ar .shr .u64 (.var 2 0 18446744073709551615) (.lit 32)))) (.lit 32))) (.ar .sub .u64 (.ar .add .u64 (.ar .add .u64 (.ar .mul .u64 (.ar .shr .u64 (.var 1 0 18446744073709551615) (.lit 32)) (.ar .shr .u64 (.var 2 0 18446744073709551615) (.lit 32))) (.ar .shr .u64 (.ar .add .u64 (.ar .mul .u64 (.ar .shr .u64 (.var 1 0 18446744073709551615) (.lit 32)) (.ar .and .u64 (.var 2 0 18446744073709551615) (.lit 4294967295))) (.ar .shr .u64 (.ar .mul .u64 (.ar .and .u64 (.var 1 0 18446744073709551615) (.lit 4294967295)) (.ar .and .u64 (.var 2 0 18446744073709551615) (.lit 4294967295))) (.lit 32))) (.lit 32))) (.ar .shr .u64 (.ar .add .u64 (.ar .and .u64 (.ar .add .u64 (.ar .mul .u64 (.ar .shr .u64 (.var 1 0 18446744073709551615) (.lit 32)) (.var 2 0 18446744073709551615)) (.ar .shr .u64 (.ar .mul .u64 (.ar .and .u64 (.var 1 0 18446744073709551615) (.lit 4294967295)) (.ar .and .u64 (.var 2 0 18446744073709551615) (.lit 4294967295))) (.lit 32))) (.lit 4294967295)) (.ar .mul .u64 (.ar .and .u64 (.var 1 0 18446744073709551615) (.lit 4294967295)) (.ar .shr .u64 (.var 2 0 18446744073709551615) (.lit 32)))) (.lit 32))) (.var 2 0 18446744073709551615))), false), ((.eq (.ar .shr .u64 (.var 1 0 18446744073709551615) (.lit 63)) (.lit 1)), true), ((.lt (.var 2 0 18446744073709551615) (.lit 9223372036854775808)), false), ((.lt (.var 1 0 18446744073709551615) (.lit 9223372036854775808)), true), ((.eq (.var 0 0 255) (.lit 56)), true), ((.eq (.var 0 0 255) (.lit 55)), false), ((.eq (.var 0 0 255) (.lit 54)), false), ((.lt (.var 0 0 255) (.lit 67)), true), ((.lt (.var 0 0 255) (.lit 54)), false), ((.lt (.var 0 0 255) (.lit 50)), false), ((.lt (.var 0 0 255) (.lit 36)), false), ((.lt (.var 0 0 255) (.lit 22)), false)] := by
  intro hh
  obtain ⟨a, ea, ha⟩ := var_nat i 1
  obtain ⟨b, eb, hb⟩ := var_nat i 2
  have h1 := hh _ _ (.tail _ (.head _))
  have h2 := hh _ _ (.tail _ (.tail _ (.head _)))
  have h3 := hh _ _ (.tail _ (.tail _ (.tail _ (.head _))))
  clear hh
  simp only [den_ar, den_conv, den_eq, den_lt, den_lit, ea, eb, true_iff, Bool.false_eq_true, false_iff, bI_ne, ieq_iff, ilt_iff, Classical.not_not, ne_eq] at h1 h2 h3
  simp only [i64_sg a ha, i64_sg b hb, shr63, sg] at h1 h2 h3
  omega

theorem exc44_no : ∀ q ∈ exc44, ∀ i, ¬ Holds i q :=
  List.forall_mem_cons.2 ⟨exc44_0_no, (fun p h => by cases h)⟩

theorem exc45_0_no (i : Nat → Int) : ¬ Holds i [((.eq (.ar .sub .u64 (.ar .add .u64 (.ar .add .u64 (.ar .mul .u64 (.ar .shr .u64 (.var 1 0 18446744073709551615) (.lit 32)) (.ar .shr .u64 (.var 2 0 18446744073709551615) (.lit 32))) (.ar .shr .u64 (.ar .add .u64 (.ar .mul .u64 (.ar .shr .u64 (.var 1 0 18446744073709551615) (.lit 32)) (.ar .and .u64 (.var 2 0 18446744073709551615) (.lit 4294967295))) (.ar .shr .u64 (.ar .mul .u64 (.ar .and .u64 (.var 1 0 18446744073709551615) (.lit 4294967295)) (.ar .and .u64 (.var 2 0 18446744073709551615) (.lit 4294967295))) (.lit 32))) (.lit 32))) (.ar .shr .u64 (.ar .add .u64 (.ar .and .u64 (.ar .add .u64 (.ar .mul .u64 (.ar .shr .u64 (.var 1 0 18446744073709551615) (.lit 32)) (.var 2 0 18446744073709551615)) (.ar .shr .u64 (.ar .mul .u64 (.ar .and .u64 (.var 1 0 18446744073709551615) (.lit 4294967295)) (.ar .and .u64 (.var 2 0 18446744073709551615) (.lit 4294967295))) (.lit 32))) (.lit 4294967295)) (.ar .mul .u64 (.ar .and .u64 (.var 1 0 18446744073709551615) (.lit 4294967295)) (.ar .shr .u64 (.var 2 0 18446744073709551615) (.lit 32)))) (.lit 32))) (.var 2 0 18446744073709551615)) (.ar .add .u64 (.ar .add .u64 (.ar .mul .u64 (.ar .shr .u64 (.var 1 0 18446744073709551615) (.lit 32)) (.ar .shr .u64 (.var 2 0 18446744073709551615) (.lit 32))) (.ar .shr .u64 (.ar .add .u64 (.ar .mul .u64 (.ar .shr .u64 (.var 1 0 18446744073709551615) (.lit 32)) (.ar .and .u64 (.var 2 0 18446744073709551615) (.lit 4294967295))) (.ar .shr .u64 (.ar .mul .u64 (.ar .and .u64 (.var 1 0 18446744073709551615) (.lit 4294967295)) (.ar .and .u64 (.var 2 0 18446744073709551615) (.lit 4294967295))) (.lit 32))) (.lit 32))) (.ar .shr .u64 (.ar .add .u64 (.ar .and .u64 (.ar .add .u64 (.ar .mul .u64 (.ar .shr .u64 (.var 1 0 18446744073709551615) (.lit 32)) (.var 2 0 18446744073709551615)) (.ar .shr .u64 (.ar .mul .u64 (.ar .and .u64 (.var 1 0 18446744073709551615) (.lit 4294967295)) (.ar .and .u64 (.var 2 0 18446744073709551615) (.lit 4294967295))) (.lit 32))) (.lit 4294967295)) (.ar .mul .u64 (.ar .and .u64 (.var 1 0 18446744073709551615) (.lit 4294967295)) (.ar .shr .u64 (.var 2 0 18446744073709551615) (.lit 32)))) (.lit 32)))), false), ((.eq (.ar .shr .u64 (.var 1 0 18446744073709551615) (.lit 63)) (.lit 1)), false), ((.lt (.conv .i64 (.var 1 0 18446744073709551615)) (.lit 0)), true), ((.lt (.var 2 0 18446744073709551615) (.lit 9223372036854775808)), true), ((.lt (.var 1 0 18446744073709551615) (.lit 9223372036854775808)), false), ((.eq (.var 0 0 255) (.lit 56)), true), ((.eq (.var 0 0 255) (.lit 55)), false), ((.eq (.var 0 0 255) (.lit 54)), false), ((.lt (.var 0 0 255) (.lit 67)), true), ((.lt (.var 0 0 255) (.lit 54)), false), ((.lt (.var 0 0 255) (.lit 50)), false), ((.lt (.var 0 0 255) (.lit 36)), false), ((.lt (.var 0 0 255) (.lit 22)), false)] := by
  intro hh
  obtain ⟨a, ea, ha⟩ := var_nat i 1
  obtain ⟨b, eb, hb⟩ := var_nat i 2
  have h1 := hh _ _ (.tail _ (.head _))
  have h2 := hh _ _ (.tail _ (.tail _ (.head _)))
  have h3 := hh _ _ (.tail _ (.tail _ (.tail _ (.head _))))
  have h4 := hh _ _ (.tail _ (.tail _ (.tail _ (.tail _ (.head _)))))
  clear hh
  simp only [den_ar, den_conv, den_eq, den_lt, den_lit, ea, eb, true_iff, Bool.false_eq_true, false_iff, bI_ne, ieq_iff, ilt_iff, Classical.not_not, ne_eq] at h1 h2 h3 h4
  simp only [i64_sg a ha, i64_sg b hb, shr63, sg] at h1 h2 h3 h4
  omega

theorem exc45_1_no (i : Nat → Int) : ¬ Holds i [((.eq (.ar .add .u64 (.ar .add .u64 (.ar .mul .u64 (.ar .shr .u64 (.var 1 0 18446744073709551615) (.lit 32)) (.ar .shr .u64 (.var 2 0 18446744073709551615) (.lit 32))) (.ar .shr .u64 (.ar .add .u64 (.ar .mul .u64 (.ar .shr .u64 (.var 1 0 18446744073709551615) (.lit 32)) (.ar .and .u64 (.var 2 0 18446744073709551615) (.lit 4294967295))) (.ar .shr .u64 (.ar .mul .u64 (.ar .and .u64 (.var 1 0 18446744073709551615) (.lit 4294967295)) (.ar .and .u64 (.var 2 0 18446744073709551615) (.lit 4294967295))) (.lit 32))) (.lit 32))) (.ar .shr .u64 (.ar .add .u64 (.ar .and .u64 (.ar .add .u64 (.ar .mul .u64 (.ar .shr .u64 (.var 1 0 18446744073709551615) (.lit 32)) (.var 2 0 18446744073709551615)) (.ar .shr .u64 (.ar .mul .u64 (.ar .and .u64 (.var 1 0 18446744073709551615) (.lit 4294967295)) (.ar .and .u64 (.var 2 0 18446744073709551615) (.lit 4294967295))) (.lit 32))) (.lit 4294967295)) (.ar .mul .u64 (.ar .and .u64 (.var 1 0 18446744073709551615) (.lit 4294967295)) (.ar .shr .u64 (.var 2 0 18446744073709551615) (.lit 32)))) (.lit 32))) (.ar .sub .u64 (.ar .add .u64 (.ar .add .u64 (.ar .mul .u64 (.ar .shr .u64 (.var 1 0 18446744073709551615) (.lit 32)) (.ar .shr .u64 (.var 2 0 18446744073709551615) (.lit 32))) (.ar .shr .u64 (.ar .add .u64 (.ar .mul .u64 (.ar .shr .u64 (.var 1 0 18446744073709551615) (.lit 32)) (.ar .and .u64 (.var 2 0 18446744073709551615) (.lit 4294967295))) (.ar .shr .u64 (.ar .mul .u64 (.ar .and .u64 (.var 1 0 18446744073709551615) (.lit 4294967295)) (.ar .and .u64 (.var 2 0 18446744073709551615) (.lit 4294967295))) (.lit 32))) (.lit 32))) (.ar .shr .u64 (.ar .add .u64 (.ar .and .u64 (.ar .add .u64 (.ar .mul .u64 (.ar .shr .u64 (.var 1 0 18446744073709551615) (.lit 32)) (.var 2 0 18446744073709551615)) (.ar .shr .u64 (.ar .mul .u64 (.ar .and .u64 (.var 1 0 18446744073709551615) (.lit 4294967295)) (.ar .and .u64 (.var 2 0 18446744073709551615) (.lit 4294967295))) (.lit 32))) (.lit 4294967295)) (.ar .mul .u64 (.ar .and .u64 (.var 1 0 18446744073709551615) (.lit 4294967295)) (.ar .shr .u64 (.var 2 0 18446744073709551615) (.lit 32)))) (.lit 32))) (.var 2 0 18446744073709551615))), false), ((.eq (.ar .shr .u64 (.var 1 0 18446744073709551615) (.lit 63)) (.lit 1)), true), ((.lt (.conv .i64 (.var 1 0 18446744073709551615)) (.lit 0)), false), ((.lt (.var 2 0 18446744073709551615) (.lit 9223372036854775808)), true), ((.lt (.var 1 0 18446744073709551615) (.lit 9223372036854775808)), false), ((.eq (.var 0 0 255) (.lit 56)), true), ((.eq (.var 0 0 255) (.lit 55)), false), ((.eq (.var 0 0 255) (.lit 54)), false), ((.lt (.var 0 0 255) (.lit 67)), true), ((.lt (.var 0 0 255) (.lit 54)), false), ((.lt (.var 0 0 255) (.lit 50)), false), ((.lt (.var 0 0 255) (.lit 36)), false), ((.lt (.var 0 0 255) (.lit 22)), false)] := by
  intro hh
  obtain ⟨a, ea, ha⟩ := var_nat i 1
  obtain ⟨b, eb, hb⟩ := var_nat i 2
  have h1 := hh _ _ (.tail _ (.head _))
  have h2 := hh _ _ (.tail _ (.tail _ (.head _)))
  have h3 := hh _ _ (.tail _ (.tail _ (.tail _ (.head _))))
  have h4 := hh _ _ (.tail _ (.tail _ (.tail _ (.tail _ (.head _)))))
  clear hh
  simp only [den_ar, den_conv, den_eq, den_lt, den_lit, ea, eb, true_iff, Bool.false_eq_true, false_iff, bI_ne, ieq_iff, ilt_iff, Classical.not_not, ne_eq] at h1 h2 h3 h4
  simp only [i64_sg a ha, i64_sg b hb, shr63, sg] at h1 h2 h3 h4
  omega

theorem exc45_no : ∀ q ∈ exc45, ∀ i, ¬ Holds i q :=
  List.forall_mem_cons.2 ⟨exc45_0_no, List.forall_mem_cons.2 ⟨exc45_1_no, (fun p h => by cases h)⟩⟩

theorem exc46_0_no (i : Nat → Int) : ¬ Holds i [((.eq (.ar .sub .u64 (.ar .add .u64 (.ar .add .u64 (.ar .mul .u64 (.ar .shr .u64 (.var 1 0 18446744073709551615) (.lit 32)) (.ar .shr .u64 (.var 2 0 18446744073709551615) (.lit 32))) (.ar .shr .u64 (.ar .add .u64 (.ar .mul .u64 (.ar .shr .u64 (.var 1 0 18446744073709551615) (.lit 32)) (.ar .and .u64 (.var 2 0 18446744073709551615) (.lit 4294967295))) (.ar .shr .u64 (.ar .mul .u64 (.ar .and .u64 (.var 1 0 18446744073709551615) (.lit 4294967295)) (.ar .and .u64 (.var 2 0 18446744073709551615) (.lit 4294967295))) (.lit 32))) (.lit 32))) (.ar .shr .u64 (.ar .add .u64 (.ar .and .u64 (.ar .add .u64 (.ar .mul .u64 (.ar .shr .u64 (.var 1 0 18446744073709551615) (.lit 32)) (.var 2 0 18446744073709551615)) (.ar .shr .u64 (.ar .mul .u64 (.ar .and .u64 (.var 1 0 18446744073709551615) (.lit 4294967295)) (.ar .and .u64 (.var 2 0 18446744073709551615) (.lit 4294967295))) (.lit 32))) (.lit 4294967295)) (.ar .mul .u64 (.ar .and .u64 (.var 1 0 18446744073709551615) (.lit 4294967295)) (.ar .shr .u64 (.var 2 0 18446744073709551615) (.lit 32)))) (.lit 32))) (.var 2 0 18446744073709551615)) (.ar .add .u64 (.ar .add .u64 (.ar .mul .u64 (.ar .shr .u64 (.var 1 0 18446744073709551615) (.lit 32)) (.ar .shr .u64 (.var 2 0 18446744073709551615) (.lit 32))) (.ar .shr .u64 (.ar .add .u64 (.ar .mul .u64 (.ar .shr .u64 (.var 1 0 18446744073709551615) (.lit 32)) (.ar .and .u64 (.var 2 0 18446744073709551615) (.lit 4294967295))) (.ar .shr .u64 (.ar .mul .u64 (.ar .and .u64 (.var 1 0 18446744073709551615) (.lit 4294967295)) (.ar .and .u64 (.var 2 0 18446744073709551615) (.lit 4294967295))) (.lit 32))) (.lit 32))) (.ar .shr .u64 (.ar .add .u64 (.ar .and .u64 (.ar .add .u64 (.ar .mul .u64 (.ar .shr .u64 (.var 1 0 18446744073709551615) (.lit 32)) (.var 2 0 18446744073709551615)) (.ar .shr .u64 (.ar .mul .u64 (.ar .and .u64 (.var 1 0 18446744073709551615) (.lit 4294967295)) (.ar .and .u64 (.var 2 0 18446744073709551615) (.lit 4294967295))) (.lit 32))) (.lit 4294967295)) (.ar .mul .u64 (.ar .and .u64 (.var 1 0 18446744073709551615) (.lit 4294967295)) (.ar .shr .u64 (.var 2 0 18446744073709551615) (.lit 32)))) (.lit 32)))), false), ((.eq (.ar .shr .u64 (.var 1 0 18446744073709551615) (.lit 63)) (.lit 1)), false), ((.lt (.conv .i64 (.var 1 0 18446744073709551615)) (.lit 0)), true), ((.lt (.var 2 0 18446744073709551615) (.lit 9223372036854775808)), false), ((.lt (.var 1 0 18446744073709551615) (.lit 9223372036854775808)), false), ((.eq (.var 0 0 255) (.lit 56)), true), ((.eq (.var 0 0 255) (.lit 55)), false), ((.eq (.var 0 0 255) (.lit 54)), false), ((.lt (.var 0 0 255) (.lit 67)), true), ((.lt (.var 0 0 255) (.lit 54)), false), ((.lt (.var 0 0 255) (.lit 50)), false), ((.lt (.var 0 0 255) (.lit 36)), false), ((.lt (.var 0 0 255) (.lit 22)), false)] := by
  intro hh
  obtain ⟨a, ea, ha⟩ := var_nat i 1
  obtain ⟨b, eb, hb⟩ := var_nat i 2
  have h1 := hh _ _ (.tail _ (.head _))
  have h2 := hh _ _ (.tail _ (.tail _ (.head _)))
  have h3 := hh _ _ (.tail _ (.tail _ (.tail _ (.head _))))
  have h4 := hh _ _ (.tail _ (.tail _ (.tail _ (.tail _ (.head _)))))
  clear hh
  simp only [den_ar, den_conv, den_eq, den_lt, den_lit, ea, eb, true_iff, Bool.false_eq_true, false_iff, bI_ne, ieq_iff, ilt_iff, Classical.not_not, ne_eq] at h1 h2 h3 h4
  simp only [i64_sg a ha, i64_sg b hb, shr63, sg] at h1 h2 h3 h4
  omega

theorem exc46_1_no (i : Nat → Int) : ¬ Holds i [((.eq (.ar .add .u64 (.ar .add .u64 (.ar .mul .u64 (.ar .shr .u64 (.var 1 0 18446744073709551615) (.lit 32)) (.ar .shr .u64 (.var 2 0 18446744073709551615) (.lit 32))) (.ar .shr .u64 (.ar .add .u64 (.ar .mul .u64 (.ar .shr .u64 (.var 1 0 18446744073709551615) (.lit 32)) (.ar .and .u64 (.var 2 0 18446744073709551615) (.lit 4294967295))) (.ar .shr .u64 (.ar .mul .u64 (.ar .and .u64 (.var 1 0 18446744073709551615) (.lit 4294967295)) (.ar .and .u64 (.var 2 0 18446744073709551615) (.lit 4294967295))) (.lit 32))) (.lit 32))) (.ar .shr .u64 (.ar .add .u64 (.ar .and .u64 (.ar .add .u64 (.ar .mul .u64 (.ar .shr .u64 (.var 1 0 18446744073709551615) (.lit 32)) (.var 2 0 18446744073709551615)) (.ar .shr .u64 (.ar .mul .u64 (.ar .and .u64 (.var 1 0 18446744073709551615) (.lit 4294967295)) (.ar .and .u64 (.var 2 0 18446744073709551615) (.lit 4294967295))) (.lit 32))) (.lit 4294967295)) (.ar .mul .u64 (.ar .and .u64 (.var 1 0 18446744073709551615) (.lit 4294967295)) (.ar .shr .u64 (.var 2 0 18446744073709551615) (.lit 32)))) (.lit 32))) (.ar .sub .u64 (.ar .add .u64 (.ar .add .u64 (.ar .mul .u64 (.ar .shr .u64 (.var 1 0 18446744073709551615) (.lit 32)) (.ar .shr .u64 (.var 2 0 18446744073709551615) (.lit 32))) (.ar .shr .u64 (.ar .add .u64 (.ar .mul .u64 (.ar .shr .u64 (.var 1 0 18446744073709551615) (.lit 32)) (.ar .and .u64 (.var 2 0 18446744073709551615) (.lit 4294967295))) (.ar .shr .u64 (.ar .mul .u64 (.ar .and .u64 (.var 1 0 18446744073709551615) (.lit 4294967295)) (.ar .and .u64 (.var 2 0 18446744073709551615) (.lit 4294967295))) (.lit 32))) (.lit 32))) (.ar .shr .u64 (.ar .add .u64 (.ar .and .u64 (.ar .add .u64 (.ar .mul .u64 (.ar .shr .u64 (.var 1 0 18446744073709551615) (.lit 32)) (.var 2 0 18446744073709551615)) (.ar .shr .u64 (.ar .mul .u64 (.ar .and .u64 (.var 1 0 18446744073709551615) (.lit 4294967295)) (.ar .and .u64 (.var 2 0 18446744073709551615) (.lit 4294967295))) (.lit 32))) (.lit 4294967295)) (.ar .mul .u64 (.ar .and .u64 (.var 1 0 18446744073709551615) (.lit 4294967295)) (.ar .shr .u64 (.var 2 0 18446744073709551615) (.lit 32)))) (.lit 32))) (.var 2 0 18446744073709551615))), false), ((.eq (.ar .shr .u64 (.var 1 0 18446744073709551615) (.lit 63)) (.lit 1)), true), ((.lt (.conv .i64 (.var 1 0 18446744073709551615)) (.lit 0)), false), ((.lt (.var 2 0 18446744073709551615) (.lit 9223372036854775808)), false), ((.lt (.var 1 0 18446744073709551615) (.lit 9223372036854775808)), false), ((.eq (.var 0 0 255) (.lit 56)), true), ((.eq (.var 0 0 255) (.lit 55)), false), ((.eq (.var 0 0 255) (.lit 54)), false), ((.lt (.var 0 0 255) (.lit 67)), true), ((.lt (.var 0 0 255) (.lit 54)), false), ((.lt (.var 0 0 255) (.lit 50)), false), ((.lt (.var 0 0 255) (.lit 36)), false), ((.lt (.var 0 0 255) (.lit 22)), false)] := by
  intro hh
  obtain ⟨a, ea, ha⟩ := var_nat i 1
  obtain ⟨b, eb, hb⟩ := var_nat i 2
  have h1 := hh _ _ (.tail _ (.head _))
  have h2 := hh _ _ (.tail _ (.tail _ (.head _)))
  have h3 := hh _ _ (.tail _ (.tail _ (.tail _ (.head _))))
  have h4 := hh _ _ (.tail _ (.tail _ (.tail _ (.tail _ (.head _)))))
  clear hh
  simp only [den_ar, den_conv, den_eq, den_lt, den_lit, ea, eb, true_iff, Bool.false_eq_true, false_iff, bI_ne, ieq_iff, ilt_iff, Classical.not_not, ne_eq] at h1 h2 h3 h4
  simp only [i64_sg a ha, i64_sg b hb, shr63, sg] at h1 h2 h3 h4
  omega

theorem exc46_no : ∀ q ∈ exc46, ∀ i, ¬ Holds i q :=
  List.forall_mem_cons.2 ⟨exc46_0_no, List.forall_mem_cons.2 ⟨exc46_1_no, (fun p h => by cases h)⟩⟩

theorem exc47_no : ∀ q ∈ exc47, ∀ i, ¬ Holds i q :=
  (fun p h => by cases h)

theorem exc48_0_no (i : Nat → Int) : ¬ Holds i [((.eq (.ar .sub .u64 (.lit 0) (.var 1 0 18446744073709551615)) (.conv .u64 (.ar .quo .i64 (.conv .i64 (.var 1 0 18446744073709551615)) (.conv .i64 (.var 2 0 18446744073709551615))))), false), ((.eq (.ar .shr .u64 (.ar .and .u64 (.ar .rem .u64 (.ar .and .u64 (.var 1 0 18446744073709551615) (.lit 4294967295)) (.ar .and .u64 (.var 2 0 18446744073709551615) (.lit 4294967295))) (.lit 4294967295)) (.lit 31)) (.lit 1)), true), ((.eq (.conv .i32 (.var 2 0 18446744073709551615)) (.lit 0)), true), ((.eq (.var 2 0 18446744073709551615) (.lit 18446744073709551615)), true), ((.eq (.var 2 0 18446744073709551615) (.lit 0)), false), ((.eq (.var 0 0 255) (.lit 58)), true), ((.eq (.var 0 0 255) (.lit 57)), false), ((.eq (.var 0 0 255) (.lit 56)), false), ((.eq (.var 0 0 255) (.lit 55)), false), ((.eq (.var 0 0 255) (.lit 54)), false), ((.lt (.var 0 0 255) (.lit 67)), true), ((.lt (.var 0 0 255) (.lit 54)), false), ((.lt (.var 0 0 255) (.lit 50)), false), ((.lt (.var 0 0 255) (.lit 36)), false), ((.lt (.var 0 0 255) (.lit 22)), false)] := by
  intro hh
  obtain ⟨a, ea, ha⟩ := var_nat i 1
  obtain ⟨b, eb, hb⟩ := var_nat i 2
  have h0 := hh _ _ (.head _)
  have h2 := hh _ _ (.tail _ (.tail _ (.head _)))
  have h3 := hh _ _ (.tail _ (.tail _ (.tail _ (.head _))))
  have h4 := hh _ _ (.tail _ (.tail _ (.tail _ (.tail _ (.head _)))))
  clear hh
  simp only [den_ar, den_conv, den_eq, den_lt, den_lit, ea, eb, true_iff, Bool.false_eq_true, false_iff, bI_ne, ieq_iff, ilt_iff, Classical.not_not, ne_eq] at h0 h2 h3 h4
  simp only [i64_sg a ha, i64_sg b hb, i32_sw] at h0 h2 h3 h4
  first
    | (rw [conv_all b hb h2] at h0; exact h0 (div_neg a ha))
    | (rw [conv_all b hb h2, rem_neg] at h0; exact h0 rfl)
    | (rw [h2] at h0; exact h0 (divw_neg a ha))
    | (rw [h2, rem_neg] at h0; exact h0 rfl)
    | (rw [conv_all b hb h3] at h0; exact h0 (div_neg a ha))
    | (rw [conv_all b hb h3, rem_neg] at h0; exact h0 rfl)
    | (rw [h3] at h0; exact h0 (divw_neg a ha))
    | (rw [h3, rem_neg] at h0; exact h0 rfl)
    | (rw [conv_all b hb h4] at h0; exact h0 (div_neg a ha))
    | (rw [conv_all b hb h4, rem_neg] at h0; exact h0 rfl)
    | (rw [h4] at h0; exact h0 (divw_neg a ha))
    | (rw [h4, rem_neg] at h0; exact h0 rfl)
    | (rw [conv_all b hb h0] at h2; exact h2 (div_neg a ha))
    | (rw [conv_all b hb h0, rem_neg] at h2; exact h2 rfl)
    | (rw [h0] at h2; exact h2 (divw_neg a ha))
    | (rw [h0, rem_neg] at h2; exact h2 rfl)
    | (rw [conv_all b hb h3] at h2; exact h2 (div_neg a ha))
    | (rw [conv_all b hb h3, rem_neg] at h2; exact h2 rfl)
    | (rw [h3] at h2; exact h2 (divw_neg a ha))
    | (rw [h3, rem_neg] at h2; exact h2 rfl)
    | (rw [conv_all b hb h4] at h2; exact h2 (div_neg a ha))
    | (rw [conv_all b hb h4, rem_neg] at h2; exact h2 rfl)
    | (rw [h4] at h2; exact h2 (divw_neg a ha))
    | (rw [h4, rem_neg] at h2; exact h2 rfl)
    | (rw [conv_all b hb h0] at h3; exact h3 (div_neg a ha))
    | (rw [conv_all b hb h0, rem_neg] at h3; exact h3 rfl)
    | (rw [h0] at h3; exact h3 (divw_neg a ha))
    | (rw [h0, rem_neg] at h3; exact h3 rfl)
    | (rw [conv_all b hb h2] at h3; exact h3 (div_neg a ha))
    | (rw [conv_all b hb h2, rem_neg] at h3; exact h3 rfl)
    | (rw [h2] at h3; exact h3 (divw_neg a ha))
    | (rw [h2, rem_neg] at h3; exact h3 rfl)
    | (rw [conv_all b hb h4] at h3; exact h3 (div_neg a ha))
    | (rw [conv_all b hb h4, rem_neg] at h3; exact h3 rfl)
    | (rw [h4] at h3; exact h3 (divw_neg a ha))
    | (rw [h4, rem_neg] at h3; exact h3 rfl)
    | (rw [conv_all b hb h0] at h4; exact h4 (div_neg a ha))
    | (rw [conv_all b hb h0, rem_neg] at h4; exact h4 rfl)
    | (rw [h0] at h4; exact h4 (divw_neg a ha))
    | (rw [h0, rem_neg] at h4; exact h4 rfl)
    | (rw [conv_all b hb h2] at h4; exact h4 (div_neg a ha))
    | (rw [conv_all b hb h2, rem_neg] at h4; exact h4 rfl)
    | (rw [h2] at h4; exact h4 (divw_neg a ha))
    | (rw [h2, rem_neg] at h4; exact h4 rfl)
    | (rw [conv_all b hb h3] at h4; exact h4 (div_neg a ha))
    | (rw [conv_all b hb h3, rem_neg] at h4; exact h4 rfl)
    | (rw [h3] at h4; exact h4 (divw_neg a ha))
    | (rw [h3, rem_neg] at h4; exact h4 rfl)

theorem exc48_1_no (i : Nat → Int) : ¬ Holds i [((.eq (.ar .sub .u64 (.lit 0) (.var 1 0 18446744073709551615)) (.conv .u64 (.ar .quo .i64 (.conv .i64 (.var 1 0 18446744073709551615)) (.conv .i64 (.var 2 0 18446744073709551615))))), false), ((.eq (.ar .shr .u64 (.ar .and .u64 (.ar .rem .u64 (.ar .and .u64 (.var 1 0 18446744073709551615) (.lit 4294967295)) (.ar .and .u64 (.var 2 0 18446744073709551615) (.lit 4294967295))) (.lit 4294967295)) (.lit 31)) (.lit 1)), false), ((.eq (.conv .i32 (.var 2 0 18446744073709551615)) (.lit 0)), true), ((.eq (.var 2 0 18446744073709551615) (.lit 18446744073709551615)), true), ((.eq (.var 2 0 18446744073709551615) (.lit 0)), false), ((.eq (.var 0 0 255) (.lit 58)), true), ((.eq (.var 0 0 255) (.lit 57)), false), ((.eq (.var 0 0 255) (.lit 56)), false), ((.eq (.var 0 0 255) (.lit 55)), false), ((.eq (.var 0 0 255) (.lit 54)), false), ((.lt (.var 0 0 255) (.lit 67)), true), ((.lt (.var 0 0 255) (.lit 54)), false), ((.lt (.var 0 0 255) (.lit 50)), false), ((.lt (.var 0 0 255) (.lit 36)), false), ((.lt (.var 0 0 255) (.lit 22)), false)] := by
  intro hh
  obtain ⟨a, ea, ha⟩ := var_nat i 1
  obtain ⟨b, eb, hb⟩ := var_nat i 2
  have h0 := hh _ _ (.head _)
  have h2 := hh _ _ (.tail _ (.tail _ (.head _)))
  have h3 := hh _ _ (.tail _ (.tail _ (.tail _ (.head _))))
  have h4 := hh _ _ (.tail _ (.tail _ (.tail _ (.tail _ (.head _)))))
  clear hh
  simp only [den_ar, den_conv, den_eq, den_lt, den_lit, ea, eb, true_iff, Bool.false_eq_true, false_iff, bI_ne, ieq_iff, ilt_iff, Classical.not_not, ne_eq] at h0 h2 h3 h4
  simp only [i64_sg a ha, i64_sg b hb, i32_sw] at h0 h2 h3 h4
  first
    | (rw [conv_all b hb h2] at h0; exact h0 (div_neg a ha))
    | (rw [conv_all b hb h2, rem_neg] at h0; exact h0 rfl)
    | (rw [h2] at h0; exact h0 (divw_neg a ha))
    | (rw [h2, rem_neg] at h0; exact h0 rfl)
    | (rw [conv_all b hb h3] at h0; exact h0 (div_neg a ha))
    | (rw [conv_all b hb h3, rem_neg] at h0; exact h0 rfl)
    | (rw [h3] at h0; exact h0 (divw_neg a ha))
    | (rw [h3, rem_neg] at h0; exact h0 rfl)
    | (rw [conv_all b hb h4] at h0; exact h0 (div_neg a ha))
    | (rw [conv_all b hb h4, rem_neg] at h0; exact h0 rfl)
    | (rw [h4] at h0; exact h0 (divw_neg a ha))
    | (rw [h4, rem_neg] at h0; exact h0 rfl)
    | (rw [conv_all b hb h0] at h2; exact h2 (div_neg a ha))
    | (rw [conv_all b hb h0, rem_neg] at h2; exact h2 rfl)
    | (rw [h0] at h2; exact h2 (divw_neg a ha))
    | (rw [h0, rem_neg] at h2; exact h2 rfl)
    | (rw [conv_all b hb h3] at h2; exact h2 (div_neg a ha))
    | (rw [conv_all b hb h3, rem_neg] at h2; exact h2 rfl)
    | (rw [h3] at h2; exact h2 (divw_neg a ha))
    | (rw [h3, rem_neg] at h2; exact h2 rfl)
    | (rw [conv_all b hb h4] at h2; exact h2 (div_neg a ha))
    | (rw [conv_all b hb h4, rem_neg] at h2; exact h2 rfl)
    | (rw [h4] at h2; exact h2 (divw_neg a ha))
    | (rw [h4, rem_neg] at h2; exact h2 rfl)
    | (rw [conv_all b hb h0] at h3; exact h3 (div_neg a ha))
    | (rw [conv_all b hb h0, rem_neg] at h3; exact h3 rfl)
    | (rw [h0] at h3; exact h3 (divw_neg a ha))
    | (rw [h0, rem_neg] at h3; exact h3 rfl)
    | (rw [conv_all b hb h2] at h3; exact h3 (div_neg a ha))
    | (rw [conv_all b hb h2, rem_neg] at h3; exact h3 rfl)
    | (rw [h2] at h3; exact h3 (divw_neg a ha))
    | (rw [h2, rem_neg] at h3; exact h3 rfl)
    | (rw [conv_all b hb h4] at h3; exact h3 (div_neg a ha))
    | (rw [conv_all b hb h4, rem_neg] at h3; exact h3 rfl)
    | (rw [h4] at h3; exact h3 (divw_neg a ha))
    | (rw [h4, rem_neg] at h3; exact h3 rfl)
    | (rw [conv_all b hb h0] at h4; exact h4 (div_neg a ha))
    | (rw [conv_all b hb h0, rem_neg] at h4; exact h4 rfl)
    | (rw [h0] at h4; exact h4 (divw_neg a ha))
    | (rw [h0, rem_neg] at h4; exact h4 rfl)
    | (rw [conv_all b hb h2] at h4; exact h4 (div_neg a ha))
    | (rw [conv_all b hb h2, rem_neg] at h4; exact h4 rfl)
    | (rw [h2] at h4; exact h4 (divw_neg a ha))
    | (rw [h2, rem_neg] at h4; exact h4 rfl)
    | (rw [conv_all b hb h3] at h4; exact h4 (div_neg a ha))
    | (rw [conv_all b hb h3, rem_neg] at h4; exact h4 rfl)
    | (rw [h3] at h4; exact h4 (divw_neg a ha))
    | (rw [h3, rem_neg] at h4; exact h4 rfl)

theorem exc48_2_no (i : Nat → Int) : ¬ Holds i [((.eq (.ar .sub .u64 (.lit 0) (.var 1 0 18446744073709551615)) (.conv .u64 (.ar .quo .i64 (.conv .i64 (.var 1 0 18446744073709551615)) (.conv .i64 (.var 2 0 18446744073709551615))))), false), ((.eq (.ar .shr .u64 (.ar .and .u64 (.ar .rem .u64 (.ar .and .u64 (.var 1 0 18446744073709551615) (.lit 4294967295)) (.ar .and .u64 (.var 2 0 18446744073709551615) (.lit 4294967295))) (.lit 4294967295)) (.lit 31)) (.lit 1)), true), ((.eq (.conv .i32 (.var 2 0 18446744073709551615)) (.lit 0)), false), ((.eq (.var 2 0 18446744073709551615) (.lit 18446744073709551615)), true), ((.eq (.var 2 0 18446744073709551615) (.lit 0)), false), ((.eq (.var 0 0 255) (.lit 58)), true), ((.eq (.var 0 0 255) (.lit 57)), false), ((.eq (.var 0 0 255) (.lit 56)), false), ((.eq (.var 0 0 255) (.lit 55)), false), ((.eq (.var 0 0 255) (.lit 54)), false), ((.lt (.var 0 0 255) (.lit 67)), true), ((.lt (.var 0 0 255) (.lit 54)), false), ((.lt (.var 0 0 255) (.lit 50)), false), ((.lt (.var 0 0 255) (.lit 36)), false), ((.lt (.var 0 0 255) (.lit 22)), false)] := by
  intro hh
  obtain ⟨a, ea, ha⟩ := var_nat i 1
  obtain ⟨b, eb, hb⟩ := var_nat i 2
  have h0 := hh _ _ (.head _)
  have h2 := hh _ _ (.tail _ (.tail _ (.head _)))
  have h3 := hh _ _ (.tail _ (.tail _ (.tail _ (.head _))))
  have h4 := hh _ _ (.tail _ (.tail _ (.tail _ (.tail _ (.head _)))))
  clear hh
  simp only [den_ar, den_conv, den_eq, den_lt, den_lit, ea, eb, true_iff, Bool.false_eq_true, false_iff, bI_ne, ieq_iff, ilt_iff, Classical.not_not, ne_eq] at h0 h2 h3 h4
  simp only [i64_sg a ha, i64_sg b hb, i32_sw] at h0 h2 h3 h4
  first
    | (rw [conv_all b hb h2] at h0; exact h0 (div_neg a ha))
    | (rw [conv_all b hb h2, rem_neg] at h0; exact h0 rfl)
    | (rw [h2] at h0; exact h0 (divw_neg a ha))
    | (rw [h2, rem_neg] at h0; exact h0 rfl)
    | (rw [conv_all b hb h3] at h0; exact h0 (div_neg a ha))
    | (rw [conv_all b hb h3, rem_neg] at h0; exact h0 rfl)
    | (rw [h3] at h0; exact h0 (divw_neg a ha))
    | (rw [h3, rem_neg] at h0; exact h0 rfl)
    | (rw [conv_all b hb h4] at h0; exact h0 (div_neg a ha))
    | (rw [conv_all b hb h4, rem_neg] at h0; exact h0 rfl)
    | (rw [h4] at h0; exact h0 (divw_neg a ha))
    | (rw [h4, rem_neg] at h0; exact h0 rfl)
    | (rw [conv_all b hb h0] at h2; exact h2 (div_neg a ha))
    | (rw [conv_all b hb h0, rem_neg] at h2; exact h2 rfl)
    | (rw [h0] at h2; exact h2 (divw_neg a ha))
    | (rw [h0, rem_neg] at h2; exact h2 rfl)
    | (rw [conv_all b hb h3] at h2; exact h2 (div_neg a ha))
    | (rw [conv_all b hb h3, rem_neg] at h2; exact h2 rfl)
    | (rw [h3] at h2; exact h2 (divw_neg a ha))
    | (rw [h3, rem_neg] at h2; exact h2 rfl)
    | (rw [conv_all b hb h4] at h2; exact h2 (div_neg a ha))
    | (rw [conv_all b hb h4, rem_neg] at h2; exact h2 rfl)
    | (rw [h4] at h2; exact h2 (divw_neg a ha))
    | (rw [h4, rem_neg] at h2; exact h2 rfl)
    | (rw [conv_all b hb h0] at h3; exact h3 (div_neg a ha))
    | (rw [conv_all b hb h0, rem_neg] at h3; exact h3 rfl)
    | (rw [h0] at h3; exact h3 (divw_neg a ha))
    | (rw [h0, rem_neg] at h3; exact h3 rfl)
    | (rw [conv_all b hb h2] at h3; exact h3 (div_neg a ha))
    | (rw [conv_all b hb h2, rem_neg] at h3; exact h3 rfl)
    | (rw [h2] at h3; exact h3 (divw_neg a ha))
    | (rw [h2, rem_neg] at h3; exact h3 rfl)
    | (rw [conv_all b hb h4] at h3; exact h3 (div_neg a ha))
    | (rw [conv_all b hb h4, rem_neg] at h3; exact h3 rfl)
    | (rw [h4] at h3; exact h3 (divw_neg a ha))
    | (rw [h4, rem_neg] at h3; exact h3 rfl)
    | (rw [conv_all b hb h0] at h4; exact h4 (div_neg a ha))
    | (rw [conv_all b hb h0, rem_neg] at h4; exact h4 rfl)
    | (rw [h0] at h4; exact h4 (divw_neg a ha))
    | (rw [h0, rem_neg] at h4; exact h4 rfl)
    | (rw [conv_all b hb h2] at h4; exact h4 (div_neg a ha))
    | (rw [conv_all b hb h2, rem_neg] at h4; exact h4 rfl)
    | (rw [h2] at h4; exact h4 (divw_neg a ha))
    | (rw [h2, rem_neg] at h4; exact h4 rfl)
    | (rw [conv_all b hb h3] at h4; exact h4 (div_neg a ha))
    | (rw [conv_all b hb h3, rem_neg] at h4; exact h4 rfl)
    | (rw [h3] at h4; exact h4 (divw_neg a ha))
    | (rw [h3, rem_neg] at h4; exact h4 rfl)

theorem exc48_3_no (i : Nat → Int) : ¬ Holds i [((.eq (.ar .sub .u64 (.lit 0) (.var 1 0 18446744073709551615)) (.conv .u64 (.ar .quo .i64 (.conv .i64 (.var 1 0 18446744073709551615)) (.conv .i64 (.var 2 0 18446744073709551615))))), false), ((.eq (.ar .shr .u64 (.ar .and .u64 (.ar .rem .u64 (.ar .and .u64 (.var 1 0 18446744073709551615) (.lit 4294967295)) (.ar .and .u64 (.var 2 0 18446744073709551615) (.lit 4294967295))) (.lit 4294967295)) (.lit 31)) (.lit 1)), false), ((.eq (.conv .i32 (.var 2 0 18446744073709551615)) (.lit 0)), false), ((.eq (.var 2 0 18446744073709551615) (.lit 18446744073709551615)), true), ((.eq (.var 2 0 18446744073709551615) (.lit 0)), false), ((.eq (.var 0 0 255) (.lit 58)), true), ((.eq (.var 0 0 255) (.lit 57)), false), ((.eq (.var 0 0 255) (.lit 56)), false), ((.eq (.var 0 0 255) (.lit 55)), false), ((.eq (.var 0 0 255) (.lit 54)), false), ((.lt (.var 0 0 255) (.lit 67)), true), ((.lt (.var 0 0 255) (.lit 54)), false), ((.lt (.var 0 0 255) (.lit 50)), false), ((.lt (.var 0 0 255) (.lit 36)), false), ((.lt (.var 0 0 255) (.lit 22)), false)] := by
  intro hh
  obtain ⟨a, ea, ha⟩ := var_nat i 1
  obtain ⟨b, eb, hb⟩ := var_nat i 2
  have h0 := hh _ _ (.head _)
  have h2 := hh _ _ (.tail _ (.tail _ (.head _)))
  have h3 := hh _ _ (.tail _ (.tail _ (.tail _ (.head _))))
  have h4 := hh _ _ (.tail _ (.tail _ (.tail _ (.tail _ (.head _)))))
  clear hh
  simp only [den_ar, den_conv, den_eq, den_lt, den_lit, ea, eb, true_iff, Bool.false_eq_true, false_iff, bI_ne, ieq_iff, ilt_iff, Classical.not_not, ne_eq] at h0 h2 h3 h4
  simp only [i64_sg a ha, i64_sg b hb, i32_sw] at h0 h2 h3 h4
  first
    | (rw [conv_all b hb h2] at h0; exact h0 (div_neg a ha))
    | (rw [conv_all b hb h2, rem_neg] at h0; exact h0 rfl)
    | (rw [h2] at h0; exact h0 (divw_neg a ha))
    | (rw [h2, rem_neg] at h0; exact h0 rfl)
    | (rw [conv_all b hb h3] at h0; exact h0 (div_neg a ha))
    | (rw [conv_all b hb h3, rem_neg] at h0; exact h0 rfl)
    | (rw [h3] at h0; exact h0 (divw_neg a ha))
    | (rw [h3, rem_neg] at h0; exact h0 rfl)
    | (rw [conv_all b hb h4] at h0; exact h0 (div_neg a ha))
    | (rw [conv_all b hb h4, rem_neg] at h0; exact h0 rfl)
    | (rw [h4] at h0; exact h0 (divw_neg a ha))
    | (rw [h4, rem_neg] at h0; exact h0 rfl)
    | (rw [conv_all b hb h0] at h2; exact h2 (div_neg a ha))
    | (rw [conv_all b hb h0, rem_neg] at h2; exact h2 rfl)
    | (rw [h0] at h2; exact h2 (divw_neg a ha))
    | (rw [h0, rem_neg] at h2; exact h2 rfl)
    | (rw [conv_all b hb h3] at h2; exact h2 (div_neg a ha))
    | (rw [conv_all b hb h3, rem_neg] at h2; exact h2 rfl)
    | (rw [h3] at h2; exact h2 (divw_neg a ha))
    | (rw [h3, rem_neg] at h2; exact h2 rfl)
    | (rw [conv_all b hb h4] at h2; exact h2 (div_neg a ha))
    | (rw [conv_all b hb h4, rem_neg] at h2; exact h2 rfl)
    | (rw [h4] at h2; exact h2 (divw_neg a ha))
    | (rw [h4, rem_neg] at h2; exact h2 rfl)
    | (rw [conv_all b hb h0] at h3; exact h3 (div_neg a ha))
    | (rw [conv_all b hb h0, rem_neg] at h3; exact h3 rfl)
    | (rw [h0] at h3; exact h3 (divw_neg a ha))
    | (rw [h0, rem_neg] at h3; exact h3 rfl)
    | (rw [conv_all b hb h2] at h3; exact h3 (div_neg a ha))
    | (rw [conv_all b hb h2, rem_neg] at h3; exact h3 rfl)
    | (rw [h2] at h3; exact h3 (divw_neg a ha))
    | (rw [h2, rem_neg] at h3; exact h3 rfl)
    | (rw [conv_all b hb h4] at h3; exact h3 (div_neg a ha))
    | (rw [conv_all b hb h4, rem_neg] at h3; exact h3 rfl)
    | (rw [h4] at h3; exact h3 (divw_neg a ha))
    | (rw [h4, rem_neg] at h3; exact h3 rfl)
    | (rw [conv_all b hb h0] at h4; exact h4 (div_neg a ha))
    | (rw [conv_all b hb h0, rem_neg] at h4; exact h4 rfl)
    | (rw [h0] at h4; exact h4 (divw_neg a ha))
    | (rw [h0, rem_neg] at h4; exact h4 rfl)
    | (rw [conv_all b hb h2] at h4; exact h4 (div_neg a ha))
    | (rw [conv_all b hb h2, rem_neg] at h4; exact h4 rfl)
    | (rw [h2] at h4; exact h4 (divw_neg a ha))
    | (rw [h2, rem_neg] at h4; exact h4 rfl)
    | (rw [conv_all b hb h3] at h4; exact h4 (div_neg a ha))
    | (rw [conv_all b hb h3, rem_neg] at h4; exact h4 rfl)
    | (rw [h3] at h4; exact h4 (divw_neg a ha))
    | (rw [h3, rem_neg] at h4; exact h4 rfl)

theorem exc48_no : ∀ q ∈ exc48, ∀ i, ¬ Holds i q :=
  List.forall_mem_cons.2 ⟨exc48_0_no, List.forall_mem_cons.2 ⟨exc48_1_no, List.forall_mem_cons.2 ⟨exc48_2_no, List.forall_mem_cons.2 ⟨exc48_3_no, (fun p h => by cases h)⟩⟩⟩⟩

theorem exc49_no : ∀ q ∈ exc49, ∀ i, ¬ Holds i q :=
  (fun p h => by cases h)

theorem exc50_0_no (i : Nat → Int) : ¬ Holds i [((.eq (.conv .u64 (.ar .rem .i64 (.conv .i64 (.var 1 0 18446744073709551615)) (.conv .i64 (.var 2 0 18446744073709551615)))) (.lit 0)), false), ((.eq (.ar .shr .u64 (.ar .and .u64 (.ar .rem .u64 (.ar .and .u64 (.var 1 0 18446744073709551615) (.lit 4294967295)) (.ar .and .u64 (.var 2 0 18446744073709551615) (.lit 4294967295))) (.lit 4294967295)) (.lit 31)) (.lit 1)), true), ((.eq (.conv .i32 (.var 2 0 18446744073709551615)) (.lit 0)), true), ((.eq (.var 2 0 18446744073709551615) (.lit 18446744073709551615)), true), ((.eq (.var 2 0 18446744073709551615) (.lit 0)), false), ((.eq (.var 0 0 255) (.lit 60)), true), ((.eq (.var 0 0 255) (.lit 59)), false), ((.eq (.var 0 0 255) (.lit 58)), false), ((.eq (.var 0 0 255) (.lit 57)), false), ((.eq (.var 0 0 255) (.lit 56)), false), ((.eq (.var 0 0 255) (.lit 55)), false), ((.eq (.var 0 0 255) (.lit 54)), false), ((.lt (.var 0 0 255) (.lit 67)), true), ((.lt (.var 0 0 255) (.lit 54)), false), ((.lt (.var 0 0 255) (.lit 50)), false), ((.lt (.var 0 0 255) (.lit 36)), false), ((.lt (.var 0 0 255) (.lit 22)), false)] := by
  intro hh
  obtain ⟨a, ea, ha⟩ := var_nat i 1
  obtain ⟨b, eb, hb⟩ := var_nat i 2
  have h0 := hh _ _ (.head _)
  have h2 := hh _ _ (.tail _ (.tail _ (.head _)))
  have h3 := hh _ _ (.tail _ (.tail _ (.tail _ (.head _))))
  have h4 := hh _ _ (.tail _ (.tail _ (.tail _ (.tail _ (.head _)))))
  clear hh
  simp only [den_ar, den_conv, den_eq, den_lt, den_lit, ea, eb, true_iff, Bool.false_eq_true, false_iff, bI_ne, ieq_iff, ilt_iff, Classical.not_not, ne_eq] at h0 h2 h3 h4
  simp only [i64_sg a ha, i64_sg b hb, i32_sw] at h0 h2 h3 h4
  first
    | (rw [conv_all b hb h2] at h0; exact h0 (div_neg a ha))
    | (rw [conv_all b hb h2, rem_neg] at h0; exact h0 rfl)
    | (rw [h2] at h0; exact h0 (divw_neg a ha))
    | (rw [h2, rem_neg] at h0; exact h0 rfl)
    | (rw [conv_all b hb h3] at h0; exact h0 (div_neg a ha))
    | (rw [conv_all b hb h3, rem_neg] at h0; exact h0 rfl)
    | (rw [h3] at h0; exact h0 (divw_neg a ha))
    | (rw [h3, rem_neg] at h0; exact h0 rfl)
    | (rw [conv_all b hb h4] at h0; exact h0 (div_neg a ha))
    | (rw [conv_all b hb h4, rem_neg] at h0; exact h0 rfl)
    | (rw [h4] at h0; exact h0 (divw_neg a ha))
    | (rw [h4, rem_neg] at h0; exact h0 rfl)
    | (rw [conv_all b hb h0] at h2; exact h2 (div_neg a ha))
    | (rw [conv_all b hb h0, rem_neg] at h2; exact h2 rfl)
    | (rw [h0] at h2; exact h2 (divw_neg a ha))
    | (rw [h0, rem_neg] at h2; exact h2 rfl)
    | (rw [conv_all b hb h3] at h2; exact h2 (div_neg a ha))
    | (rw [conv_all b hb h3, rem_neg] at h2; exact h2 rfl)
    | (rw [h3] at h2; exact h2 (divw_neg a ha))
    | (rw [h3, rem_neg] at h2; exact h2 rfl)
    | (rw [conv_all b hb h4] at h2; exact h2 (div_neg a ha))
    | (rw [conv_all b hb h4, rem_neg] at h2; exact h2 rfl)
    | (rw [h4] at h2; exact h2 (divw_neg a ha))
    | (rw [h4, rem_neg] at h2; exact h2 rfl)
    | (rw [conv_all b hb h0] at h3; exact h3 (div_neg a ha))
    | (rw [conv_all b hb h0, rem_neg] at h3; exact h3 rfl)
    | (rw [h0] at h3; exact h3 (divw_neg a ha))
    | (rw [h0, rem_neg] at h3; exact h3 rfl)
    | (rw [conv_all b hb h2] at h3; exact h3 (div_neg a ha))
    | (rw [conv_all b hb h2, rem_neg] at h3; exact h3 rfl)
    | (rw [h2] at h3; exact h3 (divw_neg a ha))
    | (rw [h2, rem_neg] at h3; exact h3 rfl)
    | (rw [conv_all b hb h4] at h3; exact h3 (div_neg a ha))
    | (rw [conv_all b hb h4, rem_neg] at h3; exact h3 rfl)
    | (rw [h4] at h3; exact h3 (divw_neg a ha))
    | (rw [h4, rem_neg] at h3; exact h3 rfl)
    | (rw [conv_all b hb h0] at h4; exact h4 (div_neg a ha))
    | (rw [conv_all b hb h0, rem_neg] at h4; exact h4 rfl)
    | (rw [h0] at h4; exact h4 (divw_neg a ha))
    | (rw [h0, rem_neg] at h4; exact h4 rfl)
    | (rw [conv_all b hb h2] at h4; exact h4 (div_neg a ha))
    | (rw [conv_all b hb h2, rem_neg] at h4; exact h4 rfl)
    | (rw [h2] at h4; exact h4 (divw_neg a ha))
    | (rw [h2, rem_neg] at h4; exact h4 rfl)
    | (rw [conv_all b hb h3] at h4; exact h4 (div_neg a ha))
    | (rw [conv_all b hb h3, rem_neg] at h4; exact h4 rfl)
    | (rw [h3] at h4; exact h4 (divw_neg a ha))
    | (rw [h3, rem_neg] at h4; exact h4 rfl)

theorem exc50_1_no (i : Nat → Int) : ¬ Holds i [((.eq (.conv .u64 (.ar .rem .i64 (.conv .i64 (.var 1 0 18446744073709551615)) (.conv .i64 (.var 2 0 18446744073709551615)))) (.lit 0)), false), ((.eq (.ar .shr .u64 (.ar .and .u64 (.ar .rem .u64 (.ar .and .u64 (.var 1 0 18446744073709551615) (.lit 4294967295)) (.ar .and .u64 (.var 2 0 18446744073709551615) (.lit 4294967295))) (.lit 4294967295)) (.lit 31)) (.lit 1)), false), ((.eq (.conv .i32 (.var 2 0 18446744073709551615)) (.lit 0)), true), ((.eq (.var 2 0 18446744073709551615) (.lit 18446744073709551615)), true), ((.eq (.var 2 0 18446744073709551615) (.lit 0)), false), ((.eq (.var 0 0 255) (.lit 60)), true), ((.eq (.var 0 0 255) (.lit 59)), false), ((.eq (.var 0 0 255) (.lit 58)), false), ((.eq (.var 0 0 255) (.lit 57)), false), ((.eq (.var 0 0 255) (.lit 56)), false), ((.eq (.var 0 0 255) (.lit 55)), false), ((.eq (.var 0 0 255) (.lit 54)), false), ((.lt (.var 0 0 255) (.lit 67)), true), ((.lt (.var 0 0 255) (.lit 54)), false), ((.lt (.var 0 0 255) (.lit 50)), false), ((.lt (.var 0 0 255) (.lit 36)), false), ((.lt (.var 0 0 255) (.lit 22)), false)] := by
  intro hh
  obtain ⟨a, ea, ha⟩ := var_nat i 1
  obtain ⟨b, eb, hb⟩ := var_nat i 2
  have h0 := hh _ _ (.head _)
  have h2 := hh _ _ (.tail _ (.tail _ (.head _)))
  have h3 := hh _ _ (.tail _ (.tail _ (.tail _ (.head _))))
  have h4 := hh _ _ (.tail _ (.tail _ (.tail _ (.tail _ (.head _)))))
  clear hh
  simp only [den_ar, den_conv, den_eq, den_lt, den_lit, ea, eb, true_iff, Bool.false_eq_true, false_iff, bI_ne, ieq_iff, ilt_iff, Classical.not_not, ne_eq] at h0 h2 h3 h4
  simp only [i64_sg a ha, i64_sg b hb, i32_sw] at h0 h2 h3 h4
  first
    | (rw [conv_all b hb h2] at h0; exact h0 (div_neg a ha))
    | (rw [conv_all b hb h2, rem_neg] at h0; exact h0 rfl)
    | (rw [h2] at h0; exact h0 (divw_neg a ha))
    | (rw [h2, rem_neg] at h0; exact h0 rfl)
    | (rw [conv_all b hb h3] at h0; exact h0 (div_neg a ha))
    | (rw [conv_all b hb h3, rem_neg] at h0; exact h0 rfl)
    | (rw [h3] at h0; exact h0 (divw_neg a ha))
    | (rw [h3, rem_neg] at h0; exact h0 rfl)
    | (rw [conv_all b hb h4] at h0; exact h0 (div_neg a ha))
    | (rw [conv_all b hb h4, rem_neg] at h0; exact h0 rfl)
    | (rw [h4] at h0; exact h0 (divw_neg a ha))
    | (rw [h4, rem_neg] at h0; exact h0 rfl)
    | (rw [conv_all b hb h0] at h2; exact h2 (div_neg a ha))
    | (rw [conv_all b hb h0, rem_neg] at h2; exact h2 rfl)
    | (rw [h0] at h2; exact h2 (divw_neg a ha))
    | (rw [h0, rem_neg] at h2; exact h2 rfl)
    | (rw [conv_all b hb h3] at h2; exact h2 (div_neg a ha))
    | (rw [conv_all b hb h3, rem_neg] at h2; exact h2 rfl)
    | (rw [h3] at h2; exact h2 (divw_neg a ha))
    | (rw [h3, rem_neg] at h2; exact h2 rfl)
    | (rw [conv_all b hb h4] at h2; exact h2 (div_neg a ha))
    | (rw [conv_all b hb h4, rem_neg] at h2; exact h2 rfl)
    | (rw [h4] at h2; exact h2 (divw_neg a ha))
    | (rw [h4, rem_neg] at h2; exact h2 rfl)
    | (rw [conv_all b hb h0] at h3; exact h3 (div_neg a ha))
    | (rw [conv_all b hb h0, rem_neg] at h3; exact h3 rfl)
    | (rw [h0] at h3; exact h3 (divw_neg a ha))
    | (rw [h0, rem_neg] at h3; exact h3 rfl)
    | (rw [conv_all b hb h2] at h3; exact h3 (div_neg a ha))
    | (rw [conv_all b hb h2, rem_neg] at h3; exact h3 rfl)
    | (rw [h2] at h3; exact h3 (divw_neg a ha))
    | (rw [h2, rem_neg] at h3; exact h3 rfl)
    | (rw [conv_all b hb h4] at h3; exact h3 (div_neg a ha))
    | (rw [conv_all b hb h4, rem_neg] at h3; exact h3 rfl)
    | (rw [h4] at h3; exact h3 (divw_neg a ha))
    | (rw [h4, rem_neg] at h3; exact h3 rfl)
    | (rw [conv_all b hb h0] at h4; exact h4 (div_neg a ha))
    | (rw [conv_all b hb h0, rem_neg] at h4; exact h4 rfl)
    | (rw [h0] at h4; exact h4 (divw_neg a ha))
    | (rw [h0, rem_neg] at h4; exact h4 rfl)
    | (rw [conv_all b hb h2] at h4; exact h4 (div_neg a ha))
    | (rw [conv_all b hb h2, rem_neg] at h4; exact h4 rfl)
    | (rw [h2] at h4; exact h4 (divw_neg a ha))
    | (rw [h2, rem_neg] at h4; exact h4 rfl)
    | (rw [conv_all b hb h3] at h4; exact h4 (div_neg a ha))
    | (rw [conv_all b hb h3, rem_neg] at h4; exact h4 rfl)
    | (rw [h3] at h4; exact h4 (divw_neg a ha))
    | (rw [h3, rem_neg] at h4; exact h4 rfl)

theorem exc50_2_no (i : Nat → Int) : ¬ Holds i [((.eq (.conv .u64 (.ar .rem .i64 (.conv .i64 (.var 1 0 18446744073709551615)) (.conv .i64 (.var 2 0 18446744073709551615)))) (.lit 0)), false), ((.eq (.ar .shr .u64 (.ar .and .u64 (.ar .rem .u64 (.ar .and .u64 (.var 1 0 18446744073709551615) (.lit 4294967295)) (.ar .and .u64 (.var 2 0 18446744073709551615) (.lit 4294967295))) (.lit 4294967295)) (.lit 31)) (.lit 1)), true), ((.eq (.conv .i32 (.var 2 0 18446744073709551615)) (.lit 0)), false), ((.eq (.var 2 0 18446744073709551615) (.lit 18446744073709551615)), true), ((.eq (.var 2 0 18446744073709551615) (.lit 0)), false), ((.eq (.var 0 0 255) (.lit 60)), true), ((.eq (.var 0 0 255) (.lit 59)), false), ((.eq (.var 0 0 255) (.lit 58)), false), ((.eq (.var 0 0 255) (.lit 57)), false), ((.eq (.var 0 0 255) (.lit 56)), false), ((.eq (.var 0 0 255) (.lit 55)), false), ((.eq (.var 0 0 255) (.lit 54)), false), ((.lt (.var 0 0 255) (.lit 67)), true), ((.lt (.var 0 0 255) (.lit 54)), false), ((.lt (.var 0 0 255) (.lit 50)), false), ((.lt (.var 0 0 255) (.lit 36)), false), ((.lt (.var 0 0 255) (.lit 22)), false)] := by
  intro hh
  obtain ⟨a, ea, ha⟩ := var_nat i 1
  obtain ⟨b, eb, hb⟩ := var_nat i 2
  have h0 := hh _ _ (.head _)
  have h2 := hh _ _ (.tail _ (.tail _ (.head _)))
  have h3 := hh _ _ (.tail _ (.tail _ (.tail _ (.head _))))
  have h4 := hh _ _ (.tail _ (.tail _ (.tail _ (.tail _ (.head _)))))
  clear hh
  simp only [den_ar, den_conv, den_eq, den_lt, den_lit, ea, eb, true_iff, Bool.false_eq_true, false_iff, bI_ne, ieq_iff, ilt_iff, Classical.not_not, ne_eq] at h0 h2 h3 h4
  simp only [i64_sg a ha, i64_sg b hb, i32_sw] at h0 h2 h3 h4
  first
    | (rw [conv_all b hb h2] at h0; exact h0 (div_neg a ha))
    | (rw [conv_all b hb h2, rem_neg] at h0; exact h0 rfl)
    | (rw [h2] at h0; exact h0 (divw_neg a ha))
    | (rw [h2, rem_neg] at h0; exact h0 rfl)
    | (rw [conv_all b hb h3] at h0; exact h0 (div_neg a ha))
    | (rw [conv_all b hb h3, rem_neg] at h0; exact h0 rfl)
    | (rw [h3] at h0; exact h0 (divw_neg a ha))
    | (rw [h3, rem_neg] at h0; exact h0 rfl)
    | (rw [conv_all b hb h4] at h0; exact h0 (div_neg a ha))
    | (rw [conv_all b hb h4, rem_neg] at h0; exact h0 rfl)
    | (rw [h4] at h0; exact h0 (divw_neg a ha))
    | (rw [h4, rem_neg] at h0; exact h0 rfl)
    | (rw [conv_all b hb h0] at h2; exact h2 (div_neg a ha))
    | (rw [conv_all b hb h0, rem_neg] at h2; exact h2 rfl)
    | (rw [h0] at h2; exact h2 (divw_neg a ha))
    | (rw [h0, rem_neg] at h2; exact h2 rfl)
    | (rw [conv_all b hb h3] at h2; exact h2 (div_neg a ha))
    | (rw [conv_all b hb h3, rem_neg] at h2; exact h2 rfl)
    | (rw [h3] at h2; exact h2 (divw_neg a ha))
    | (rw [h3, rem_neg] at h2; exact h2 rfl)
    | (rw [conv_all b hb h4] at h2; exact h2 (div_neg a ha))
    | (rw [conv_all b hb h4, rem_neg] at h2; exact h2 rfl)
    | (rw [h4] at h2; exact h2 (divw_neg a ha))
    | (rw [h4, rem_neg] at h2; exact h2 rfl)
    | (rw [conv_all b hb h0] at h3; exact h3 (div_neg a ha))
    | (rw [conv_all b hb h0, rem_neg] at h3; exact h3 rfl)
    | (rw [h0] at h3; exact h3 (divw_neg a ha))
    | (rw [h0, rem_neg] at h3; exact h3 rfl)
    | (rw [conv_all b hb h2] at h3; exact h3 (div_neg a ha))
    | (rw [conv_all b hb h2, rem_neg] at h3; exact h3 rfl)
    | (rw [h2] at h3; exact h3 (divw_neg a ha))
    | (rw [h2, rem_neg] at h3; exact h3 rfl)
    | (rw [conv_all b hb h4] at h3; exact h3 (div_neg a ha))
    | (rw [conv_all b hb h4, rem_neg] at h3; exact h3 rfl)
    | (rw [h4] at h3; exact h3 (divw_neg a ha))
    | (rw [h4, rem_neg] at h3; exact h3 rfl)
    | (rw [conv_all b hb h0] at h4; exact h4 (div_neg a ha))
    | (rw [conv_all b hb h0, rem_neg] at h4; exact h4 rfl)
    | (rw [h0] at h4; exact h4 (divw_neg a ha))
    | (rw [h0, rem_neg] at h4; exact h4 rfl)
    | (rw [conv_all b hb h2] at h4; exact h4 (div_neg a ha))
    | (rw [conv_all b hb h2, rem_neg] at h4; exact h4 rfl)
    | (rw [h2] at h4; exact h4 (divw_neg a ha))
    | (rw [h2, rem_neg] at h4; exact h4 rfl)
    | (rw [conv_all b hb h3] at h4; exact h4 (div_neg a ha))
    | (rw [conv_all b hb h3, rem_neg] at h4; exact h4 rfl)
    | (rw [h3] at h4; exact h4 (divw_neg a ha))
    | (rw [h3, rem_neg] at h4; exact h4 rfl)

theorem exc50_3_no (i : Nat → Int) : ¬ Holds i [((.eq (.conv .u64 (.ar .rem .i64 (.conv .i64 (.var 1 0 18446744073709551615)) (.conv .i64 (.var 2 0 18446744073709551615)))) (.lit 0)), false), ((.eq (.ar .shr .u64 (.ar .and .u64 (.ar .rem .u64 (.ar .and .u64 (.var 1 0 18446744073709551615) (.lit 4294967295)) (.ar .and .u64 (.var 2 0 18446744073709551615) (.lit 4294967295))) (.lit 4294967295)) (.lit 31)) (.lit 1)), false), ((.eq (.conv .i32 (.var 2 0 18446744073709551615)) (.lit 0)), false), ((.eq (.var 2 0 18446744073709551615) (.lit 18446744073709551615)), true), ((.eq (.var 2 0 18446744073709551615) (.lit 0)), false), ((.eq (.var 0 0 255) (.lit 60)), true), ((.eq (.var 0 0 255) (.lit 59)), false), ((.eq (.var 0 0 255) (.lit 58)), false), ((.eq (.var 0 0 255) (.lit 57)), false), ((.eq (.var 0 0 255) (.lit 56)), false), ((.eq (.var 0 0 255) (.lit 55)), false), ((.eq (.var 0 0 255) (.lit 54)), false), ((.lt (.var 0 0 255) (.lit 67)), true), ((.lt (.var 0 0 255) (.lit 54)), false), ((.lt (.var 0 0 255) (.lit 50)), false), ((.lt (.var 0 0 255) (.lit 36)), false), ((.lt (.var 0 0 255) (.lit 22)), false)] := by
  intro hh
  obtain ⟨a, ea, ha⟩ := var_nat i 1
  obtain ⟨b, eb, hb⟩ := var_nat i 2
  have h0 := hh _ _ (.head _)
  have h2 := hh _ _ (.tail _ (.tail _ (.head _)))
  have h3 := hh _ _ (.tail _ (.tail _ (.tail _ (.head _))))
  have h4 := hh _ _ (.tail _ (.tail _ (.tail _ (.tail _ (.head _)))))
  clear hh
  simp only [den_ar, den_conv, den_eq, den_lt, den_lit, ea, eb, true_iff, Bool.false_eq_true, false_iff, bI_ne, ieq_iff, ilt_iff, Classical.not_not, ne_eq] at h0 h2 h3 h4
  simp only [i64_sg a ha, i64_sg b hb, i32_sw] at h0 h2 h3 h4
  first
    | (rw [conv_all b hb h2] at h0; exact h0 (div_neg a ha))
    | (rw [conv_all b hb h2, rem_neg] at h0; exact h0 rfl)
    | (rw [h2] at h0; exact h0 (divw_neg a ha))
    | (rw [h2, rem_neg] at h0; exact h0 rfl)
    | (rw [conv_all b hb h3] at h0; exact h0 (div_neg a ha))
    | (rw [conv_all b hb h3, rem_neg] at h0; exact h0 rfl)
    | (rw [h3] at h0; exact h0 (divw_neg a ha))
    | (rw [h3, rem_neg] at h0; exact h0 rfl)
    | (rw [conv_all b hb h4] at h0; exact h0 (div_neg a ha))
    | (rw [conv_all b hb h4, rem_neg] at h0; exact h0 rfl)
    | (rw [h4] at h0; exact h0 (divw_neg a ha))
    | (rw [h4, rem_neg] at h0; exact h0 rfl)
    | (rw [conv_all b hb h0] at h2; exact h2 (div_neg a ha))
    | (rw [conv_all b hb h0, rem_neg] at h2; exact h2 rfl)
    | (rw [h0] at h2; exact h2 (divw_neg a ha))
    | (rw [h0, rem_neg] at h2; exact h2 rfl)
    | (rw [conv_all b hb h3] at h2; exact h2 (div_neg a ha))
    | (rw [conv_all b hb h3, rem_neg] at h2; exact h2 rfl)
    | (rw [h3] at h2; exact h2 (divw_neg a ha))
    | (rw [h3, rem_neg] at h2; exact h2 rfl)
    | (rw [conv_all b hb h4] at h2; exact h2 (div_neg a ha))
    | (rw [conv_all b hb h4, rem_neg] at h2; exact h2 rfl)
    | (rw [h4] at h2; exact h2 (divw_neg a ha))
    | (rw [h4, rem_neg] at h2; exact h2 rfl)
    | (rw [conv_all b hb h0] at h3; exact h3 (div_neg a ha))
    | (rw [conv_all b hb h0, rem_neg] at h3; exact h3 rfl)
    | (rw [h0] at h3; exact h3 (divw_neg a ha))
    | (rw [h0, rem_neg] at h3; exact h3 rfl)
    | (rw [conv_all b hb h2] at h3; exact h3 (div_neg a ha))
    | (rw [conv_all b hb h2, rem_neg] at h3; exact h3 rfl)
    | (rw [h2] at h3; exact h3 (divw_neg a ha))
    | (rw [h2, rem_neg] at h3; exact h3 rfl)
    | (rw [conv_all b hb h4] at h3; exact h3 (div_neg a ha))
    | (rw [conv_all b hb h4, rem_neg] at h3; exact h3 rfl)
    | (rw [h4] at h3; exact h3 (divw_neg a ha))
    | (rw [h4, rem_neg] at h3; exact h3 rfl)
    | (rw [conv_all b hb h0] at h4; exact h4 (div_neg a ha))
    | (rw [conv_all b hb h0, rem_neg] at h4; exact h4 rfl)
    | (rw [h0] at h4; exact h4 (divw_neg a ha))
    | (rw [h0, rem_neg] at h4; exact h4 rfl)
    | (rw [conv_all b hb h2] at h4; exact h4 (div_neg a ha))
    | (rw [conv_all b hb h2, rem_neg] at h4; exact h4 rfl)
    | (rw [h2] at h4; exact h4 (divw_neg a ha))
    | (rw [h2, rem_neg] at h4; exact h4 rfl)
    | (rw [conv_all b hb h3] at h4; exact h4 (div_neg a ha))
    | (rw [conv_all b hb h3, rem_neg] at h4; exact h4 rfl)
    | (rw [h3] at h4; exact h4 (divw_neg a ha))
    | (rw [h3, rem_neg] at h4; exact h4 rfl)

theorem exc50_no : ∀ q ∈ exc50, ∀ i, ¬ Holds i q :=
  List.forall_mem_cons.2 ⟨exc50_0_no, List.forall_mem_cons.2 ⟨exc50_1_no, List.forall_mem_cons.2 ⟨exc50_2_no, List.forall_mem_cons.2 ⟨exc50_3_no, (fun p h => by cases h)⟩⟩⟩⟩

theorem exc51_no : ∀ q ∈ exc51, ∀ i, ¬ Holds i q :=
  (fun p h => by cases h)

theorem exc52_no : ∀ q ∈ exc52, ∀ i, ¬ Holds i q :=
  (fun p h => by cases h)

theorem exc53_0_no (i : Nat → Int) : ¬ Holds i [((.eq (.conv .u64 (.conv .i32 (.ar .sub .u64 (.lit 0) (.var 1 0 18446744073709551615)))) (.conv .u64 (.conv .i32 (.ar .quo .i64 (.conv .i32 (.var 1 0 18446744073709551615)) (.conv .i32 (.var 2 0 18446744073709551615)))))), false), ((.eq (.var 2 0 18446744073709551615) (.lit 0)), true), ((.eq (.conv .i32 (.var 2 0 18446744073709551615)) (.lit (-1))), true), ((.eq (.conv .i32 (.var 2 0 18446744073709551615)) (.lit 0)), false), ((.eq (.var 0 0 255) (.lit 63)), true), ((.eq (.var 0 0 255) (.lit 62)), false), ((.eq (.var 0 0 255) (.lit 61)), false), ((.eq (.var 0 0 255) (.lit 60)), false), ((.eq (.var 0 0 255) (.lit 59)), false), ((.eq (.var 0 0 255) (.lit 58)), false), ((.eq (.var 0 0 255) (.lit 57)), false), ((.eq (.var 0 0 255) (.lit 56)), false), ((.eq (.var 0 0 255) (.lit 55)), false), ((.eq (.var 0 0 255) (.lit 54)), false), ((.lt (.var 0 0 255) (.lit 67)), true), ((.lt (.var 0 0 255) (.lit 54)), false), ((.lt (.var 0 0 255) (.lit 50)), false), ((.lt (.var 0 0 255) (.lit 36)), false), ((.lt (.var 0 0 255) (.lit 22)), false)] := by
  intro hh
  obtain ⟨a, ea, ha⟩ := var_nat i 1
  obtain ⟨b, eb, hb⟩ := var_nat i 2
  have h0 := hh _ _ (.head _)
  have h1 := hh _ _ (.tail _ (.head _))
  have h2 := hh _ _ (.tail _ (.tail _ (.head _)))
  have h3 := hh _ _ (.tail _ (.tail _ (.tail _ (.head _))))
  clear hh
  simp only [den_ar, den_conv, den_eq, den_lt, den_lit, ea, eb, true_iff, Bool.false_eq_true, false_iff, bI_ne, ieq_iff, ilt_iff, Classical.not_not, ne_eq] at h0 h1 h2 h3
  simp only [i64_sg a ha, i64_sg b hb, i32_sw] at h0 h1 h2 h3
  first
    | (rw [conv_all b hb h1] at h0; exact h0 (div_neg a ha))
    | (rw [conv_all b hb h1, rem_neg] at h0; exact h0 rfl)
    | (rw [h1] at h0; exact h0 (divw_neg a ha))
    | (rw [h1, rem_neg] at h0; exact h0 rfl)
    | (rw [conv_all b hb h2] at h0; exact h0 (div_neg a ha))
    | (rw [conv_all b hb h2, rem_neg] at h0; exact h0 rfl)
    | (rw [h2] at h0; exact h0 (divw_neg a ha))
    | (rw [h2, rem_neg] at h0; exact h0 rfl)
    | (rw [conv_all b hb h3] at h0; exact h0 (div_neg a ha))
    | (rw [conv_all b hb h3, rem_neg] at h0; exact h0 rfl)
    | (rw [h3] at h0; exact h0 (divw_neg a ha))
    | (rw [h3, rem_neg] at h0; exact h0 rfl)
    | (rw [conv_all b hb h0] at h1; exact h1 (div_neg a ha))
    | (rw [conv_all b hb h0, rem_neg] at h1; exact h1 rfl)
    | (rw [h0] at h1; exact h1 (divw_neg a ha))
    | (rw [h0, rem_neg] at h1; exact h1 rfl)
    | (rw [conv_all b hb h2] at h1; exact h1 (div_neg a ha))
    | (rw [conv_all b hb h2, rem_neg] at h1; exact h1 rfl)
    | (rw [h2] at h1; exact h1 (divw_neg a ha))
    | (rw [h2, rem_neg] at h1; exact h1 rfl)
    | (rw [conv_all b hb h3] at h1; exact h1 (div_neg a ha))
    | (rw [conv_all b hb h3, rem_neg] at h1; exact h1 rfl)
    | (rw [h3] at h1; exact h1 (divw_neg a ha))
    | (rw [h3, rem_neg] at h1; exact h1 rfl)
    | (rw [conv_all b hb h0] at h2; exact h2 (div_neg a ha))
    | (rw [conv_all b hb h0, rem_neg] at h2; exact h2 rfl)
    | (rw [h0] at h2; exact h2 (divw_neg a ha))
    | (rw [h0, rem_neg] at h2; exact h2 rfl)
    | (rw [conv_all b hb h1] at h2; exact h2 (div_neg a ha))
    | (rw [conv_all b hb h1, rem_neg] at h2; exact h2 rfl)
    | (rw [h1] at h2; exact h2 (divw_neg a ha))
    | (rw [h1, rem_neg] at h2; exact h2 rfl)
    | (rw [conv_all b hb h3] at h2; exact h2 (div_neg a ha))
    | (rw [conv_all b hb h3, rem_neg] at h2; exact h2 rfl)
    | (rw [h3] at h2; exact h2 (divw_neg a ha))
    | (rw [h3, rem_neg] at h2; exact h2 rfl)
    | (rw [conv_all b hb h0] at h3; exact h3 (div_neg a ha))
    | (rw [conv_all b hb h0, rem_neg] at h3; exact h3 rfl)
    | (rw [h0] at h3; exact h3 (divw_neg a ha))
    | (rw [h0, rem_neg] at h3; exact h3 rfl)
    | (rw [conv_all b hb h1] at h3; exact h3 (div_neg a ha))
    | (rw [conv_all b hb h1, rem_neg] at h3; exact h3 rfl)
    | (rw [h1] at h3; exact h3 (divw_neg a ha))
    | (rw [h1, rem_neg] at h3; exact h3 rfl)
    | (rw [conv_all b hb h2] at h3; exact h3 (div_neg a ha))
    | (rw [conv_all b hb h2, rem_neg] at h3; exact h3 rfl)
    | (rw [h2] at h3; exact h3 (divw_neg a ha))
    | (rw [h2, rem_neg] at h3; exact h3 rfl)

theorem exc53_1_no (i : Nat → Int) : ¬ Holds i [((.eq (.conv .u64 (.conv .i32 (.ar .sub .u64 (.lit 0) (.var 1 0 18446744073709551615)))) (.conv .u64 (.conv .i32 (.ar .quo .i64 (.conv .i32 (.var 1 0 18446744073709551615)) (.conv .i32 (.var 2 0 18446744073709551615)))))), false), ((.eq (.ar .shr .u64 (.ar .and .u64 (.ar .rem .u64 (.ar .and .u64 (.var 1 0 18446744073709551615) (.lit 4294967295)) (.ar .and .u64 (.var 2 0 18446744073709551615) (.lit 4294967295))) (.lit 4294967295)) (.lit 31)) (.lit 1)), true), ((.eq (.var 2 0 18446744073709551615) (.lit 0)), false), ((.eq (.conv .i32 (.var 2 0 18446744073709551615)) (.lit (-1))), true), ((.eq (.conv .i32 (.var 2 0 18446744073709551615)) (.lit 0)), false), ((.eq (.var 0 0 255) (.lit 63)), true), ((.eq (.var 0 0 255) (.lit 62)), false), ((.eq (.var 0 0 255) (.lit 61)), false), ((.eq (.var 0 0 255) (.lit 60)), false), ((.eq (.var 0 0 255) (.lit 59)), false), ((.eq (.var 0 0 255) (.lit 58)), false), ((.eq (.var 0 0 255) (.lit 57)), false), ((.eq (.var 0 0 255) (.lit 56)), false), ((.eq (.var 0 0 255) (.lit 55)), false), ((.eq (.var 0 0 255) (.lit 54)), false), ((.lt (.var 0 0 255) (.lit 67)), true), ((.lt (.var 0 0 255) (.lit 54)), false), ((.lt (.var 0 0 255) (.lit 50)), false), ((.lt (.var 0 0 255) (.lit 36)), false), ((.lt (.var 0 0 255) (.lit 22)), false)] := by
  intro hh
  obtain ⟨a, ea, ha⟩ := var_nat i 1
  obtain ⟨b, eb, hb⟩ := var_nat i 2
  have h0 := hh _ _ (.head _)
  have h2 := hh _ _ (.tail _ (.tail _ (.head _)))
  have h3 := hh _ _ (.tail _ (.tail _ (.tail _ (.head _))))
  have h4 := hh _ _ (.tail _ (.tail _ (.tail _ (.tail _ (.head _)))))
  clear hh
  simp only [den_ar, den_conv, den_eq, den_lt, den_lit, ea, eb, true_iff, Bool.false_eq_true, false_iff, bI_ne, ieq_iff, ilt_iff, Classical.not_not, ne_eq] at h0 h2 h3 h4
  simp only [i64_sg a ha, i64_sg b hb, i32_sw] at h0 h2 h3 h4
  first
    | (rw [conv_all b hb h2] at h0; exact h0 (div_neg a ha))
    | (rw [conv_all b hb h2, rem_neg] at h0; exact h0 rfl)
    | (rw [h2] at h0; exact h0 (divw_neg a ha))
    | (rw [h2, rem_neg] at h0; exact h0 rfl)
    | (rw [conv_all b hb h3] at h0; exact h0 (div_neg a ha))
    | (rw [conv_all b hb h3, rem_neg] at h0; exact h0 rfl)
    | (rw [h3] at h0; exact h0 (divw_neg a ha))
    | (rw [h3, rem_neg] at h0; exact h0 rfl)
    | (rw [conv_all b hb h4] at h0; exact h0 (div_neg a ha))
    | (rw [conv_all b hb h4, rem_neg] at h0; exact h0 rfl)
    | (rw [h4] at h0; exact h0 (divw_neg a ha))
    | (rw [h4, rem_neg] at h0; exact h0 rfl)
    | (rw [conv_all b hb h0] at h2; exact h2 (div_neg a ha))
    | (rw [conv_all b hb h0, rem_neg] at h2; exact h2 rfl)
    | (rw [h0] at h2; exact h2 (divw_neg a ha))
    | (rw [h0, rem_neg] at h2; exact h2 rfl)
    | (rw [conv_all b hb h3] at h2; exact h2 (div_neg a ha))
    | (rw [conv_all b hb h3, rem_neg] at h2; exact h2 rfl)
    | (rw [h3] at h2; exact h2 (divw_neg a ha))
    | (rw [h3, rem_neg] at h2; exact h2 rfl)
    | (rw [conv_all b hb h4] at h2; exact h2 (div_neg a ha))
    | (rw [conv_all b hb h4, rem_neg] at h2; exact h2 rfl)
    | (rw [h4] at h2; exact h2 (divw_neg a ha))
    | (rw [h4, rem_neg] at h2; exact h2 rfl)
    | (rw [conv_all b hb h0] at h3; exact h3 (div_neg a ha))
    | (rw [conv_all b hb h0, rem_neg] at h3; exact h3 rfl)
    | (rw [h0] at h3; exact h3 (divw_neg a ha))
    | (rw [h0, rem_neg] at h3; exact h3 rfl)
    | (rw [conv_all b hb h2] at h3; exact h3 (div_neg a ha))
    | (rw [conv_all b hb h2, rem_neg] at h3; exact h3 rfl)
    | (rw [h2] at h3; exact h3 (divw_neg a ha))
    | (rw [h2, rem_neg] at h3; exact h3 rfl)
    | (rw [conv_all b hb h4] at h3; exact h3 (div_neg a ha))
    | (rw [conv_all b hb h4, rem_neg] at h3; exact h3 rfl)
    | (rw [h4] at h3; exact h3 (divw_neg a ha))
    | (rw [h4, rem_neg] at h3; exact h3 rfl)
    | (rw [conv_all b hb h0] at h4; exact h4 (div_neg a ha))
    | (rw [conv_all b hb h0, rem_neg] at h4; exact h4 rfl)
    | (rw [h0] at h4; exact h4 (divw_neg a ha))
    | (rw [h0, rem_neg] at h4; exact h4 rfl)
    | (rw [conv_all b hb h2] at h4; exact h4 (div_neg a ha))
    | (rw [conv_all b hb h2, rem_neg] at h4; exact h4 rfl)
    | (rw [h2] at h4; exact h4 (divw_neg a ha))
    | (rw [h2, rem_neg] at h4; exact h4 rfl)
    | (rw [conv_all b hb h3] at h4; exact h4 (div_neg a ha))
    | (rw [conv_all b hb h3, rem_neg] at h4; exact h4 rfl)
    | (rw [h3] at h4; exact h4 (divw_neg a ha))
    | (rw [h3, rem_neg] at h4; exact h4 rfl)

theorem exc53_2_no (i : Nat → Int) : ¬ Holds i [((.eq (.conv .u64 (.conv .i32 (.ar .sub .u64 (.lit 0) (.var 1 0 18446744073709551615)))) (.conv .u64 (.conv .i32 (.ar .quo .i64 (.conv .i32 (.var 1 0 18446744073709551615)) (.conv .i32 (.var 2 0 18446744073709551615)))))), false), ((.eq (.ar .shr .u64 (.ar .and .u64 (.ar .rem .u64 (.ar .and .u64 (.var 1 0 18446744073709551615) (.lit 4294967295)) (.ar .and .u64 (.var 2 0 18446744073709551615) (.lit 4294967295))) (.lit 4294967295)) (.lit 31)) (.lit 1)), false), ((.eq (.var 2 0 18446744073709551615) (.lit 0)), false), ((.eq (.conv .i32 (.var 2 0 18446744073709551615)) (.lit (-1))), true), ((.eq (.conv .i32 (.var 2 0 18446744073709551615)) (.lit 0)), false), ((.eq (.var 0 0 255) (.lit 63)), true), ((.eq (.var 0 0 255) (.lit 62)), false), ((.eq (.var 0 0 255) (.lit 61)), false), ((.eq (.var 0 0 255) (.lit 60)), false), ((.eq (.var 0 0 255) (.lit 59)), false), ((.eq (.var 0 0 255) (.lit 58)), false), ((.eq (.var 0 0 255) (.lit 57)), false), ((.eq (.var 0 0 255) (.lit 56)), false), ((.eq (.var 0 0 255) (.lit 55)), false), ((.eq (.var 0 0 255) (.lit 54)), false), ((.lt (.var 0 0 255) (.lit 67)), true), ((.lt (.var 0 0 255) (.lit 54)), false), ((.lt (.var 0 0 255) (.lit 50)), false), ((.lt (.var 0 0 255) (.lit 36)), false), ((.lt (.var 0 0 255) (.lit 22)), false)] := by
  intro hh
  obtain ⟨a, ea, ha⟩ := var_nat i 1
  obtain ⟨b, eb, hb⟩ := var_nat i 2
  have h0 := hh _ _ (.head _)
  have h2 := hh _ _ (.tail _ (.tail _ (.head _)))
  have h3 := hh _ _ (.tail _ (.tail _ (.tail _ (.head _))))
  have h4 := hh _ _ (.tail _ (.tail _ (.tail _ (.tail _ (.head _)))))
  clear hh
  simp only [den_ar, den_conv, den_eq, den_lt, den_lit, ea, eb, true_iff, Bool.false_eq_true, false_iff, bI_ne, ieq_iff, ilt_iff, Classical.not_not, ne_eq] at h0 h2 h3 h4
  simp only [i64_sg a ha, i64_sg b hb, i32_sw] at h0 h2 h3 h4
  first
    | (rw [conv_all b hb h2] at h0; exact h0 (div_neg a ha))
    | (rw [conv_all b hb h2, rem_neg] at h0; exact h0 rfl)
    | (rw [h2] at h0; exact h0 (divw_neg a ha))
    | (rw [h2, rem_neg] at h0; exact h0 rfl)
    | (rw [conv_all b hb h3] at h0; exact h0 (div_neg a ha))
    | (rw [conv_all b hb h3, rem_neg] at h0; exact h0 rfl)
    | (rw [h3] at h0; exact h0 (divw_neg a ha))
    | (rw [h3, rem_neg] at h0; exact h0 rfl)
    | (rw [conv_all b hb h4] at h0; exact h0 (div_neg a ha))
    | (rw [conv_all b hb h4, rem_neg] at h0; exact h0 rfl)
    | (rw [h4] at h0; exact h0 (divw_neg a ha))
    | (rw [h4, rem_neg] at h0; exact h0 rfl)
    | (rw [conv_all b hb h0] at h2; exact h2 (div_neg a ha))
    | (rw [conv_all b hb h0, rem_neg] at h2; exact h2 rfl)
    | (rw [h0] at h2; exact h2 (divw_neg a ha))
    | (rw [h0, rem_neg] at h2; exact h2 rfl)
    | (rw [conv_all b hb h3] at h2; exact h2 (div_neg a ha))
    | (rw [conv_all b hb h3, rem_neg] at h2; exact h2 rfl)
    | (rw [h3] at h2; exact h2 (divw_neg a ha))
    | (rw [h3, rem_neg] at h2; exact h2 rfl)
    | (rw [conv_all b hb h4] at h2; exact h2 (div_neg a ha))
    | (rw [conv_all b hb h4, rem_neg] at h2; exact h2 rfl)
    | (rw [h4] at h2; exact h2 (divw_neg a ha))
    | (rw [h4, rem_neg] at h2; exact h2 rfl)
    | (rw [conv_all b hb h0] at h3; exact h3 (div_neg a ha))
    | (rw [conv_all b hb h0, rem_neg] at h3; exact h3 rfl)
    | (rw [h0] at h3; exact h3 (divw_neg a ha))
    | (rw [h0, rem_neg] at h3; exact h3 rfl)
    | (rw [conv_all b hb h2] at h3; exact h3 (div_neg a ha))
    | (rw [conv_all b hb h2, rem_neg] at h3; exact h3 rfl)
    | (rw [h2] at h3; exact h3 (divw_neg a ha))
    | (rw [h2, rem_neg] at h3; exact h3 rfl)
    | (rw [conv_all b hb h4] at h3; exact h3 (div_neg a ha))
    | (rw [conv_all b hb h4, rem_neg] at h3; exact h3 rfl)
    | (rw [h4] at h3; exact h3 (divw_neg a ha))
    | (rw [h4, rem_neg] at h3; exact h3 rfl)
    | (rw [conv_all b hb h0] at h4; exact h4 (div_neg a ha))
    | (rw [conv_all b hb h0, rem_neg] at h4; exact h4 rfl)
    | (rw [h0] at h4; exact h4 (divw_neg a ha))
    | (rw [h0, rem_neg] at h4; exact h4 rfl)
    | (rw [conv_all b hb h2] at h4; exact h4 (div_neg a ha))
    | (rw [conv_all b hb h2, rem_neg] at h4; exact h4 rfl)
    | (rw [h2] at h4; exact h4 (divw_neg a ha))
    | (rw [h2, rem_neg] at h4; exact h4 rfl)
    | (rw [conv_all b hb h3] at h4; exact h4 (div_neg a ha))
    | (rw [conv_all b hb h3, rem_neg] at h4; exact h4 rfl)
    | (rw [h3] at h4; exact h4 (divw_neg a ha))
    | (rw [h3, rem_neg] at h4; exact h4 rfl)

theorem exc53_no : ∀ q ∈ exc53, ∀ i, ¬ Holds i q :=
  List.forall_mem_cons.2 ⟨exc53_0_no, List.forall_mem_cons.2 ⟨exc53_1_no, List.forall_mem_cons.2 ⟨exc53_2_no, (fun p h => by cases h)⟩⟩⟩

theorem exc54_no : ∀ q ∈ exc54, ∀ i, ¬ Holds i q :=
  (fun p h => by cases h)

theorem exc55_0_no (i : Nat → Int) : ¬ Holds i [((.eq (.conv .i32 (.ar .rem .i64 (.conv .i32 (.var 1 0 18446744073709551615)) (.conv .i32 (.var 2 0 18446744073709551615)))) (.lit 0)), false), ((.eq (.var 2 0 18446744073709551615) (.lit 0)), true), ((.eq (.conv .i32 (.var 2 0 18446744073709551615)) (.lit (-1))), true), ((.eq (.conv .i32 (.var 2 0 18446744073709551615)) (.lit 0)), false), ((.eq (.var 0 0 255) (.lit 65)), true), ((.eq (.var 0 0 255) (.lit 64)), false), ((.eq (.var 0 0 255) (.lit 63)), false), ((.eq (.var 0 0 255) (.lit 62)), false), ((.eq (.var 0 0 255) (.lit 61)), false), ((.eq (.var 0 0 255) (.lit 60)), false), ((.eq (.var 0 0 255) (.lit 59)), false), ((.eq (.var 0 0 255) (.lit 58)), false), ((.eq (.var 0 0 255) (.lit 57)), false), ((.eq (.var 0 0 255) (.lit 56)), false), ((.eq (.var 0 0 255) (.lit 55)), false), ((.eq (.var 0 0 255) (.lit 54)), false), ((.lt (.var 0 0 255) (.lit 67)), true), ((.lt (.var 0 0 255) (.lit 54)), false), ((.lt (.var 0 0 255) (.lit 50)), false), ((.lt (.var 0 0 255) (.lit 36)), false), ((.lt (.var 0 0 255) (.lit 22)), false)] := by
  intro hh
  obtain ⟨a, ea, ha⟩ := var_nat i 1
  obtain ⟨b, eb, hb⟩ := var_nat i 2
  have h0 := hh _ _ (.head _)
  have h1 := hh _ _ (.tail _ (.head _))
  have h2 := hh _ _ (.tail _ (.tail _ (.head _)))
  have h3 := hh _ _ (.tail _ (.tail _ (.tail _ (.head _))))
  clear hh
  simp only [den_ar, den_conv, den_eq, den_lt, den_lit, ea, eb, true_iff, Bool.false_eq_true, false_iff, bI_ne, ieq_iff, ilt_iff, Classical.not_not, ne_eq] at h0 h1 h2 h3
  simp only [i64_sg a ha, i64_sg b hb, i32_sw] at h0 h1 h2 h3
  first
    | (rw [conv_all b hb h1] at h0; exact h0 (div_neg a ha))
    | (rw [conv_all b hb h1, rem_neg] at h0; exact h0 rfl)
    | (rw [h1] at h0; exact h0 (divw_neg a ha))
    | (rw [h1, rem_neg] at h0; exact h0 rfl)
    | (rw [conv_all b hb h2] at h0; exact h0 (div_neg a ha))
    | (rw [conv_all b hb h2, rem_neg] at h0; exact h0 rfl)
    | (rw [h2] at h0; exact h0 (divw_neg a ha))
    | (rw [h2, rem_neg] at h0; exact h0 rfl)
    | (rw [conv_all b hb h3] at h0; exact h0 (div_neg a ha))
    | (rw [conv_all b hb h3, rem_neg] at h0; exact h0 rfl)
    | (rw [h3] at h0; exact h0 (divw_neg a ha))
    | (rw [h3, rem_neg] at h0; exact h0 rfl)
    | (rw [conv_all b hb h0] at h1; exact h1 (div_neg a ha))
    | (rw [conv_all b hb h0, rem_neg] at h1; exact h1 rfl)
    | (rw [h0] at h1; exact h1 (divw_neg a ha))
    | (rw [h0, rem_neg] at h1; exact h1 rfl)
    | (rw [conv_all b hb h2] at h1; exact h1 (div_neg a ha))
    | (rw [conv_all b hb h2, rem_neg] at h1; exact h1 rfl)
    | (rw [h2] at h1; exact h1 (divw_neg a ha))
    | (rw [h2, rem_neg] at h1; exact h1 rfl)
    | (rw [conv_all b hb h3] at h1; exact h1 (div_neg a ha))
    | (rw [conv_all b hb h3, rem_neg] at h1; exact h1 rfl)
    | (rw [h3] at h1; exact h1 (divw_neg a ha))
    | (rw [h3, rem_neg] at h1; exact h1 rfl)
    | (rw [conv_all b hb h0] at h2; exact h2 (div_neg a ha))
    | (rw [conv_all b hb h0, rem_neg] at h2; exact h2 rfl)
    | (rw [h0] at h2; exact h2 (divw_neg a ha))
    | (rw [h0, rem_neg] at h2; exact h2 rfl)
    | (rw [conv_all b hb h1] at h2; exact h2 (div_neg a ha))
    | (rw [conv_all b hb h1, rem_neg] at h2; exact h2 rfl)
    | (rw [h1] at h2; exact h2 (divw_neg a ha))
    | (rw [h1, rem_neg] at h2; exact h2 rfl)
    | (rw [conv_all b hb h3] at h2; exact h2 (div_neg a ha))
    | (rw [conv_all b hb h3, rem_neg] at h2; exact h2 rfl)
    | (rw [h3] at h2; exact h2 (divw_neg a ha))
    | (rw [h3, rem_neg] at h2; exact h2 rfl)
    | (rw [conv_all b hb h0] at h3; exact h3 (div_neg a ha))
    | (rw [conv_all b hb h0, rem_neg] at h3; exact h3 rfl)
    | (rw [h0] at h3; exact h3 (divw_neg a ha))
    | (rw [h0, rem_neg] at h3; exact h3 rfl)
    | (rw [conv_all b hb h1] at h3; exact h3 (div_neg a ha))
    | (rw [conv_all b hb h1, rem_neg] at h3; exact h3 rfl)
    | (rw [h1] at h3; exact h3 (divw_neg a ha))
    | (rw [h1, rem_neg] at h3; exact h3 rfl)
    | (rw [conv_all b hb h2] at h3; exact h3 (div_neg a ha))
    | (rw [conv_all b hb h2, rem_neg] at h3; exact h3 rfl)
    | (rw [h2] at h3; exact h3 (divw_neg a ha))
    | (rw [h2, rem_neg] at h3; exact h3 rfl)

theorem exc55_1_no (i : Nat → Int) : ¬ Holds i [((.eq (.conv .i32 (.ar .rem .i64 (.conv .i32 (.var 1 0 18446744073709551615)) (.conv .i32 (.var 2 0 18446744073709551615)))) (.lit 0)), false), ((.eq (.ar .shr .u64 (.ar .and .u64 (.ar .rem .u64 (.ar .and .u64 (.var 1 0 18446744073709551615) (.lit 4294967295)) (.ar .and .u64 (.var 2 0 18446744073709551615) (.lit 4294967295))) (.lit 4294967295)) (.lit 31)) (.lit 1)), true), ((.eq (.var 2 0 18446744073709551615) (.lit 0)), false), ((.eq (.conv .i32 (.var 2 0 18446744073709551615)) (.lit (-1))), true), ((.eq (.conv .i32 (.var 2 0 18446744073709551615)) (.lit 0)), false), ((.eq (.var 0 0 255) (.lit 65)), true), ((.eq (.var 0 0 255) (.lit 64)), false), ((.eq (.var 0 0 255) (.lit 63)), false), ((.eq (.var 0 0 255) (.lit 62)), false), ((.eq (.var 0 0 255) (.lit 61)), false), ((.eq (.var 0 0 255) (.lit 60)), false), ((.eq (.var 0 0 255) (.lit 59)), false), ((.eq (.var 0 0 255) (.lit 58)), false), ((.eq (.var 0 0 255) (.lit 57)), false), ((.eq (.var 0 0 255) (.lit 56)), false), ((.eq (.var 0 0 255) (.lit 55)), false), ((.eq (.var 0 0 255) (.lit 54)), false), ((.lt (.var 0 0 255) (.lit 67)), true), ((.lt (.var 0 0 255) (.lit 54)), false), ((.lt (.var 0 0 255) (.lit 50)), false), ((.lt (.var 0 0 255) (.lit 36)), false), ((.lt (.var 0 0 255) (.lit 22)), false)] := by
  intro hh
  obtain ⟨a, ea, ha⟩ := var_nat i 1
  obtain ⟨b, eb, hb⟩ := var_nat i 2
  have h0 := hh _ _ (.head _)
  have h2 := hh _ _ (.tail _ (.tail _ (.head _)))
  have h3 := hh _ _ (.tail _ (.tail _ (.tail _ (.head _))))
  have h4 := hh _ _ (.tail _ (.tail _ (.tail _ (.tail _ (.head _)))))
  clear hh
  simp only [den_ar, den_conv, den_eq, den_lt, den_lit, ea, eb, true_iff, Bool.false_eq_true, false_iff, bI_ne, ieq_iff, ilt_iff, Classical.not_not, ne_eq] at h0 h2 h3 h4
  simp only [i64_sg a ha, i64_sg b hb, i32_sw] at h0 h2 h3 h4
  first
    | (rw [conv_all b hb h2] at h0; exact h0 (div_neg a ha))
    | (rw [conv_all b hb h2, rem_neg] at h0; exact h0 rfl)
    | (rw [h2] at h0; exact h0 (divw_neg a ha))
    | (rw [h2, rem_neg] at h0; exact h0 rfl)
    | (rw [conv_all b hb h3] at h0; exact h0 (div_neg a ha))
    | (rw [conv_all b hb h3, rem_neg] at h0; exact h0 rfl)
    | (rw [h3] at h0; exact h0 (divw_neg a ha))
    | (rw [h3, rem_neg] at h0; exact h0 rfl)
    | (rw [conv_all b hb h4] at h0; exact h0 (div_neg a ha))
    | (rw [conv_all b hb h4, rem_neg] at h0; exact h0 rfl)
    | (rw [h4] at h0; exact h0 (divw_neg a ha))
    | (rw [h4, rem_neg] at h0; exact h0 rfl)
    | (rw [conv_all b hb h0] at h2; exact h2 (div_neg a ha))
    | (rw [conv_all b hb h0, rem_neg] at h2; exact h2 rfl)
    | (rw [h0] at h2; exact h2 (divw_neg a ha))
    | (rw [h0, rem_neg] at h2; exact h2 rfl)
    | (rw [conv_all b hb h3] at h2; exact h2 (div_neg a ha))
    | (rw [conv_all b hb h3, rem_neg] at h2; exact h2 rfl)
    | (rw [h3] at h2; exact h2 (divw_neg a ha))
    | (rw [h3, rem_neg] at h2; exact h2 rfl)
    | (rw [conv_all b hb h4] at h2; exact h2 (div_neg a ha))
    | (rw [conv_all b hb h4, rem_neg] at h2; exact h2 rfl)
    | (rw [h4] at h2; exact h2 (divw_neg a ha))
    | (rw [h4, rem_neg] at h2; exact h2 rfl)
    | (rw [conv_all b hb h0] at h3; exact h3 (div_neg a ha))
    | (rw [conv_all b hb h0, rem_neg] at h3; exact h3 rfl)
    | (rw [h0] at h3; exact h3 (divw_neg a ha))
    | (rw [h0, rem_neg] at h3; exact h3 rfl)
    | (rw [conv_all b hb h2] at h3; exact h3 (div_neg a ha))
    | (rw [conv_all b hb h2, rem_neg] at h3; exact h3 rfl)
    | (rw [h2] at h3; exact h3 (divw_neg a ha))
    | (rw [h2, rem_neg] at h3; exact h3 rfl)
    | (rw [conv_all b hb h4] at h3; exact h3 (div_neg a ha))
    | (rw [conv_all b hb h4, rem_neg] at h3; exact h3 rfl)
    | (rw [h4] at h3; exact h3 (divw_neg a ha))
    | (rw [h4, rem_neg] at h3; exact h3 rfl)
    | (rw [conv_all b hb h0] at h4; exact h4 (div_neg a ha))
    | (rw [conv_all b hb h0, rem_neg] at h4; exact h4 rfl)
    | (rw [h0] at h4; exact h4 (divw_neg a ha))
    | (rw [h0, rem_neg] at h4; exact h4 rfl)
    | (rw [conv_all b hb h2] at h4; exact h4 (div_neg a ha))
    | (rw [conv_all b hb h2, rem_neg] at h4; exact h4 rfl)
    | (rw [h2] at h4; exact h4 (divw_neg a ha))
    | (rw [h2, rem_neg] at h4; exact h4 rfl)
    | (rw [conv_all b hb h3] at h4; exact h4 (div_neg a ha))
    | (rw [conv_all b hb h3, rem_neg] at h4; exact h4 rfl)
    | (rw [h3] at h4; exact h4 (divw_neg a ha))
    | (rw [h3, rem_neg] at h4; exact h4 rfl)

theorem exc55_2_no (i : Nat → Int) : ¬ Holds i [((.eq (.conv .i32 (.ar .rem .i64 (.conv .i32 (.var 1 0 18446744073709551615)) (.conv .i32 (.var 2 0 18446744073709551615)))) (.lit 0)), false), ((.eq (.ar .shr .u64 (.ar .and .u64 (.ar .rem .u64 (.ar .and .u64 (.var 1 0 18446744073709551615) (.lit 4294967295)) (.ar .and .u64 (.var 2 0 18446744073709551615) (.lit 4294967295))) (.lit 4294967295)) (.lit 31)) (.lit 1)), false), ((.eq (.var 2 0 18446744073709551615) (.lit 0)), false), ((.eq (.conv .i32 (.var 2 0 18446744073709551615)) (.lit (-1))), true), ((.eq (.conv .i32 (.var 2 0 18446744073709551615)) (.lit 0)), false), ((.eq (.var 0 0 255) (.lit 65)), true), ((.eq (.var 0 0 255) (.lit 64)), false), ((.eq (.var 0 0 255) (.lit 63)), false), ((.eq (.var 0 0 255) (.lit 62)), false), ((.eq (.var 0 0 255) (.lit 61)), false), ((.eq (.var 0 0 255) (.lit 60)), false), ((.eq (.var 0 0 255) (.lit 59)), false), ((.eq (.var 0 0 255) (.lit 58)), false), ((.eq (.var 0 0 255) (.lit 57)), false), ((.eq (.var 0 0 255) (.lit 56)), false), ((.eq (.var 0 0 255) (.lit 55)), false), ((.eq (.var 0 0 255) (.lit 54)), false), ((.lt (.var 0 0 255) (.lit 67)), true), ((.lt (.var 0 0 255) (.lit 54)), false), ((.lt (.var 0 0 255) (.lit 50)), false), ((.lt (.var 0 0 255) (.lit 36)), false), ((.lt (.var 0 0 255) (.lit 22)), false)] := by
  intro hh
  obtain ⟨a, ea, ha⟩ := var_nat i 1
  obtain ⟨b, eb, hb⟩ := var_nat i 2
  have h0 := hh _ _ (.head _)
  have h2 := hh _ _ (.tail _ (.tail _ (.head _)))
  have h3 := hh _ _ (.tail _ (.tail _ (.tail _ (.head _))))
  have h4 := hh _ _ (.tail _ (.tail _ (.tail _ (.tail _ (.head _)))))
  clear hh
  simp only [den_ar, den_conv, den_eq, den_lt, den_lit, ea, eb, true_iff, Bool.false_eq_true, false_iff, bI_ne, ieq_iff, ilt_iff, Classical.not_not, ne_eq] at h0 h2 h3 h4
  simp only [i64_sg a ha, i64_sg b hb, i32_sw] at h0 h2 h3 h4
  first
    | (rw [conv_all b hb h2] at h0; exact h0 (div_neg a ha))
    | (rw [conv_all b hb h2, rem_neg] at h0; exact h0 rfl)
    | (rw [h2] at h0; exact h0 (divw_neg a ha))
    | (rw [h2, rem_neg] at h0; exact h0 rfl)
    | (rw [conv_all b hb h3] at h0; exact h0 (div_neg a ha))
    | (rw [conv_all b hb h3, rem_neg] at h0; exact h0 rfl)
    | (rw [h3] at h0; exact h0 (divw_neg a ha))
    | (rw [h3, rem_neg] at h0; exact h0 rfl)
    | (rw [conv_all b hb h4] at h0; exact h0 (div_neg a ha))
    | (rw [conv_all b hb h4, rem_neg] at h0; exact h0 rfl)
    | (rw [h4] at h0; exact h0 (divw_neg a ha))
    | (rw [h4, rem_neg] at h0; exact h0 rfl)
    | (rw [conv_all b hb h0] at h2; exact h2 (div_neg a ha))
    | (rw [conv_all b hb h0, rem_neg] at h2; exact h2 rfl)
    | (rw [h0] at h2; exact h2 (divw_neg a ha))
    | (rw [h0, rem_neg] at h2; exact h2 rfl)
    | (rw [conv_all b hb h3] at h2; exact h2 (div_neg a ha))
    | (rw [conv_all b hb h3, rem_neg] at h2; exact h2 rfl)
    | (rw [h3] at h2; exact h2 (divw_neg a ha))
    | (rw [h3, rem_neg] at h2; exact h2 rfl)
    | (rw [conv_all b hb h4] at h2; exact h2 (div_neg a ha))
    | (rw [conv_all b hb h4, rem_neg] at h2; exact h2 rfl)
    | (rw [h4] at h2; exact h2 (divw_neg a ha))
    | (rw [h4, rem_neg] at h2; exact h2 rfl)
    | (rw [conv_all b hb h0] at h3; exact h3 (div_neg a ha))
    | (rw [conv_all b hb h0, rem_neg] at h3; exact h3 rfl)
    | (rw [h0] at h3; exact h3 (divw_neg a ha))
    | (rw [h0, rem_neg] at h3; exact h3 rfl)
    | (rw [conv_all b hb h2] at h3; exact h3 (div_neg a ha))
    | (rw [conv_all b hb h2, rem_neg] at h3; exact h3 rfl)
    | (rw [h2] at h3; exact h3 (divw_neg a ha))
    | (rw [h2, rem_neg] at h3; exact h3 rfl)
    | (rw [conv_all b hb h4] at h3; exact h3 (div_neg a ha))
    | (rw [conv_all b hb h4, rem_neg] at h3; exact h3 rfl)
    | (rw [h4] at h3; exact h3 (divw_neg a ha))
    | (rw [h4, rem_neg] at h3; exact h3 rfl)
    | (rw [conv_all b hb h0] at h4; exact h4 (div_neg a ha))
    | (rw [conv_all b hb h0, rem_neg] at h4; exact h4 rfl)
    | (rw [h0] at h4; exact h4 (divw_neg a ha))
    | (rw [h0, rem_neg] at h4; exact h4 rfl)
    | (rw [conv_all b hb h2] at h4; exact h4 (div_neg a ha))
    | (rw [conv_all b hb h2, rem_neg] at h4; exact h4 rfl)
    | (rw [h2] at h4; exact h4 (divw_neg a ha))
    | (rw [h2, rem_neg] at h4; exact h4 rfl)
    | (rw [conv_all b hb h3] at h4; exact h4 (div_neg a ha))
    | (rw [conv_all b hb h3, rem_neg] at h4; exact h4 rfl)
    | (rw [h3] at h4; exact h4 (divw_neg a ha))
    | (rw [h3, rem_neg] at h4; exact h4 rfl)

theorem exc55_no : ∀ q ∈ exc55, ∀ i, ¬ Holds i q :=
  List.forall_mem_cons.2 ⟨exc55_0_no, List.forall_mem_cons.2 ⟨exc55_1_no, List.forall_mem_cons.2 ⟨exc55_2_no, (fun p h => by cases h)⟩⟩⟩

theorem exc56_no : ∀ q ∈ exc56, ∀ i, ¬ Holds i q :=
  (fun p h => by cases h)

theorem exc58_no : ∀ q ∈ exc58, ∀ i, ¬ Holds i q :=
  (fun p h => by cases h)

end Go.Proofs.Ytgfhjldfhcoagaa.Sx
