/- AluDivides: what is excused can not be: quotients, and what they leave. -/
import Derived.Test.YtgfhjldfhcoagaaUAluDivides
namespace Go.Proofs.Ytgfhjldfhcoagaa.Sx
open Go
set_option maxRecDepth 100000
theorem w_u64 (x : Int) : wrapF .u64 x = x % 18446744073709551616 := by
  have := lowOf_eq .u64 x
  simp only [span] at this
  simpa [wrapF, ofLow, isSigned] using this
theorem w_u32 (x : Int) : wrapF .u32 x = x % 4294967296 := by
  have := lowOf_eq .u32 x
  simp only [span] at this
  simpa [wrapF, ofLow, isSigned] using this
theorem w_i64 (x : Int) : wrapF .i64 x % 18446744073709551616 = x % 18446744073709551616 ∧ -9223372036854775808 ≤ wrapF .i64 x ∧ wrapF .i64 x ≤ 9223372036854775807 := by
  have h1 := wrapF_mod .i64 x
  have h2 := wrapF_in .i64 x
  exact ⟨h1, h2.1, h2.2⟩
theorem w_i32 (x : Int) : wrapF .i32 x % 4294967296 = x % 4294967296 ∧ -2147483648 ≤ wrapF .i32 x ∧ wrapF .i32 x ≤ 2147483647 := by
  have h1 := wrapF_mod .i32 x
  have h2 := wrapF_in .i32 x
  exact ⟨h1, h2.1, h2.2⟩
theorem i64_of (x : Int) (h : -9223372036854775808 ≤ x ∧ x ≤ 9223372036854775807) : wrapF .i64 x = x := by
  have := w_i64 x; omega
theorem i32_of (x : Int) (h : -2147483648 ≤ x ∧ x ≤ 2147483647) : wrapF .i32 x = x := by
  have := w_i32 x; omega
theorem mulmod {m x b B : Int} (h : b % m = B % m) : (x * b) % m = (x * B) % m := by
  rw [Int.mul_emod, h, ← Int.mul_emod]
theorem mulmod2 {m x b B : Int} (h : b % m = B % m) : (x % m * b) % m = (x * B) % m := by
  rw [Int.mul_emod, Int.emod_emod, h, ← Int.mul_emod]
theorem and_low (x : Int) (h0 : 0 ≤ x) (h1 : x ≤ 18446744073709551615) : arF .and .u64 x 4294967295 = x % 4294967296 := by
  obtain ⟨n, rfl⟩ : ∃ n : Nat, x = (n : Int) := ⟨x.toNat, by omega⟩
  simp only [arF, ofLow, isSigned]
  have : Nat.land (lowOf .u64 n) (lowOf .u64 4294967295) = n % 18446744073709551616 % 4294967296 := Nat.and_two_pow_sub_one_eq_mod (n % 18446744073709551616) 32
  rw [this]
  have h : n % 18446744073709551616 % 4294967296 = n % 4294967296 := by omega
  rw [h]; rfl
/-- What a signed division leaves. -/
theorem tmod_facts (A B : Int) (hB : B ≠ 0) : (B * A.tdiv B + A.tmod B = A) ∧ (0 < B → -B < A.tmod B ∧ A.tmod B < B) ∧ (B < 0 → B < A.tmod B ∧ A.tmod B < -B) ∧ (0 ≤ A → 0 ≤ A.tmod B) ∧ (A ≤ 0 → A.tmod B ≤ 0) ∧
    ((0 ≤ A → A < B ∨ A < -B → A.tmod B = A) ∧ (A ≤ 0 → -A < B ∨ -A < -B → A.tmod B = A)) := by
  have h0 := Int.mul_tdiv_add_tmod A B
  have h1 : (A.tmod B).natAbs = A.natAbs % B.natAbs := Int.natAbs_tmod A B
  have h2 := Nat.mod_lt A.natAbs (show 0 < B.natAbs by omega)
  have h3 : 0 ≤ A → 0 ≤ A.tmod B := fun h => Int.tmod_nonneg B h
  have h4 : A ≤ 0 → A.tmod B ≤ 0 := fun h => by
    have := Int.tmod_nonneg B (show 0 ≤ -A by omega)
    rw [Int.neg_tmod] at this; omega
  have h5 : A.natAbs < B.natAbs → (A.tmod B).natAbs = A.natAbs := fun h => by rw [h1, Nat.mod_eq_of_lt h]
  refine ⟨h0, fun h => ⟨by omega, by omega⟩, fun h => ⟨by omega, by omega⟩, h3, h4, fun h hh => ?_, fun h hh => ?_⟩
  · have := h5 (by omega); have := h3 h; omega
  · have := h5 (by omega); have := h4 h; omega
theorem tdiv_small (A B m : Int) (hm : 0 ≤ m) (hB : B ≠ 0) (hB1 : B ≠ -1) (hA : -m - 1 ≤ A ∧ A ≤ m) : -m - 1 ≤ A.tdiv B ∧ A.tdiv B ≤ m := by
  have h1 : (A.tdiv B).natAbs = A.natAbs / B.natAbs := Int.natAbs_tdiv A B
  by_cases h : B = 1
  · subst h; rw [Int.tdiv_one]; omega
  · have h2 : A.natAbs / B.natAbs ≤ A.natAbs / 2 := Nat.div_le_div_left (by omega) (by omega)
    omega
theorem sdiv_facts (a b : Int) (ha : 0 ≤ a ∧ a ≤ 18446744073709551615) (hb : 0 ≤ b ∧ b ≤ 18446744073709551615) (h0 : b ≠ 0) (h1 : b ≠ 18446744073709551615) :
    ∃ A B Q R P : Int, wrapF .i64 a = A ∧ wrapF .i64 b = B ∧ wrapF .i64 (A.tdiv B) = Q ∧ A.tmod B = R ∧ (Q % 18446744073709551616 * b) % 18446744073709551616 = P % 18446744073709551616 ∧ P + R = A ∧
      a % 18446744073709551616 = A % 18446744073709551616 ∧ b % 18446744073709551616 = B % 18446744073709551616 ∧ (-9223372036854775808 ≤ A ∧ A ≤ 9223372036854775807) ∧ (-9223372036854775808 ≤ B ∧ B ≤ 9223372036854775807) ∧
      (0 < B → -B < R ∧ R < B) ∧ (B < 0 → B < R ∧ R < -B) ∧ (0 ≤ A → 0 ≤ R) ∧ (A ≤ 0 → R ≤ 0) ∧ ((0 ≤ A → A < B ∨ A < -B → R = A) ∧ (A ≤ 0 → -A < B ∨ -A < -B → R = A)) := by
  have wa := w_i64 a
  have wb := w_i64 b
  have hB0 : wrapF .i64 b ≠ 0 := by omega
  have hB1 : wrapF .i64 b ≠ -1 := by omega
  have t := tmod_facts (wrapF .i64 a) (wrapF .i64 b) hB0
  have s := tdiv_small (wrapF .i64 a) (wrapF .i64 b) 9223372036854775807 (by decide) hB0 hB1 (by omega)
  have hq : wrapF .i64 ((wrapF .i64 a).tdiv (wrapF .i64 b)) = (wrapF .i64 a).tdiv (wrapF .i64 b) := i64_of _ (by omega)
  refine ⟨_, _, _, _, (wrapF .i64 a).tdiv (wrapF .i64 b) * wrapF .i64 b, rfl, rfl, rfl, rfl, ?_, ?_, wa.1.symm, wb.1.symm, wa.2, wb.2, t.2.1, t.2.2.1, t.2.2.2.1, t.2.2.2.2.1, t.2.2.2.2.2⟩
  · rw [hq]; exact mulmod2 wb.1.symm
  · rw [Int.mul_comm]; exact t.1
theorem udiv_facts (a b : Int) (ha : 0 ≤ a ∧ a ≤ 18446744073709551615) (hb : 0 < b ∧ b ≤ 18446744073709551615) :
    ∃ q r P : Int, a.tdiv b = q ∧ a.tmod b = r ∧ q % 18446744073709551616 * b = P ∧ P + r = a ∧ 0 ≤ r ∧ r < b ∧ 0 ≤ q ∧ q ≤ a := by
  have h1 : a.tdiv b = a / b := Int.tdiv_eq_ediv_of_nonneg ha.1
  have h2 : a.tmod b = a % b := Int.tmod_eq_emod_of_nonneg ha.1
  have h3 := Int.mul_ediv_add_emod a b
  have h4 := Int.emod_nonneg a (show b ≠ 0 by omega)
  have h5 := Int.emod_lt_of_pos a hb.1
  have h6 : 0 ≤ a / b := Int.ediv_nonneg ha.1 (by omega)
  have h7 : a / b ≤ a := Int.ediv_le_self b ha.1
  refine ⟨a / b, a % b, a / b * b, h1, h2, ?_, ?_, h4, h5, h6, h7⟩
  · rw [Int.emod_eq_of_lt h6 (by omega)]
  · rw [Int.mul_comm]; omega
theorem wdiv_facts (a b : Int) (h0 : wrapF .i32 b ≠ 0) (h1 : wrapF .i32 b ≠ -1) :
    ∃ A B Q R P : Int, wrapF .i32 a = A ∧ wrapF .i32 b = B ∧ wrapF .i64 (A.tdiv B) = Q ∧ A.tmod B = R ∧ wrapF .i32 R = R ∧ (Q * b) % 4294967296 = P % 4294967296 ∧ P + R = A ∧
      a % 4294967296 = A % 4294967296 ∧ b % 4294967296 = B % 4294967296 ∧ (-2147483648 ≤ A ∧ A ≤ 2147483647) ∧ (-2147483648 ≤ B ∧ B ≤ 2147483647) ∧
      (0 < B → -B < R ∧ R < B) ∧ (B < 0 → B < R ∧ R < -B) ∧ (0 ≤ A → 0 ≤ R) ∧ (A ≤ 0 → R ≤ 0) ∧ B ≠ 0 := by
  have wa := w_i32 a
  have wb := w_i32 b
  have t := tmod_facts (wrapF .i32 a) (wrapF .i32 b) h0
  have s := tdiv_small (wrapF .i32 a) (wrapF .i32 b) 2147483647 (by decide) h0 h1 (by omega)
  have hq : wrapF .i64 ((wrapF .i32 a).tdiv (wrapF .i32 b)) = (wrapF .i32 a).tdiv (wrapF .i32 b) := i64_of _ (by omega)
  have hr : wrapF .i32 ((wrapF .i32 a).tmod (wrapF .i32 b)) = (wrapF .i32 a).tmod (wrapF .i32 b) := i32_of _ (by
    have h1 := t.2.1; have h2 := t.2.2.1; omega)
  refine ⟨_, _, _, _, (wrapF .i32 a).tdiv (wrapF .i32 b) * wrapF .i32 b, rfl, rfl, rfl, rfl, hr, ?_, ?_, wa.1.symm, wb.1.symm, wa.2, wb.2, t.2.1, t.2.2.1, t.2.2.2.1, t.2.2.2.2.1, h0⟩
  · rw [hq]; exact mulmod wb.1.symm
  · rw [Int.mul_comm]; exact t.1
theorem aAdd (k : IntKind) (x y : Int) : arF .add k x y = wrapF k (x + y) := rfl
theorem aSub (k : IntKind) (x y : Int) : arF .sub k x y = wrapF k (x - y) := rfl
theorem aMul (k : IntKind) (x y : Int) : arF .mul k x y = wrapF k (x * y) := rfl
theorem aQuo (k : IntKind) (x y : Int) : arF .quo k x y = wrapF k (x.tdiv y) := rfl
theorem aRem (k : IntKind) (x y : Int) : arF .rem k x y = x.tmod y := rfl
theorem exc_0 (i : Nat → Int) (hh : Holds i [((.eq (.ar .mul .u64 (.ar .sub .u64 (.lit 0) (.var 0 0 18446744073709551615)) (.var 1 0 18446744073709551615)) (.var 0 0 18446744073709551615)), false), ((.eq (.var 1 0 18446744073709551615) (.lit 18446744073709551615)), true), ((.eq (.var 1 0 18446744073709551615) (.lit 0)), false)]) : False := by
  have h0 := hh _ _ (.head _)
  have h1 := hh _ _ (.tail _ (.head _))
  have h2 := hh _ _ (.tail _ (.tail _ (.head _)))
  clear hh
  simp only [N.den, aAdd, aSub, aMul, aQuo, aRem, true_iff, Bool.false_eq_true, false_iff, bI_ne, ieq_iff, ilt_iff, Classical.not_not] at h0 h1 h2
  generalize hA0 : max 0 (min 18446744073709551615 (i 0)) = a at *
  generalize hB0 : max 0 (min 18446744073709551615 (i 1)) = b at *
  have ha : 0 ≤ a ∧ a ≤ 18446744073709551615 := by omega
  have hb : 0 ≤ b ∧ b ≤ 18446744073709551615 := by omega
  clear hA0 hB0
  simp only [w_u64] at h0 h1 h2
  have hbb : b = 18446744073709551615 := h1
  subst hbb
  omega
theorem exc_1 (i : Nat → Int) (hh : Holds i [((.eq (.ar .add .u64 (.ar .mul .u64 (.ar .quo .u64 (.var 0 0 18446744073709551615) (.lit 18446744073709551615)) (.var 1 0 18446744073709551615)) (.ar .rem .u64 (.var 0 0 18446744073709551615) (.lit 18446744073709551615))) (.var 0 0 18446744073709551615)), false), ((.eq (.ar .mul .u64 (.ar .sub .u64 (.lit 0) (.var 0 0 18446744073709551615)) (.var 1 0 18446744073709551615)) (.var 0 0 18446744073709551615)), true), ((.eq (.var 1 0 18446744073709551615) (.lit 18446744073709551615)), true), ((.eq (.var 1 0 18446744073709551615) (.lit 0)), false)]) : False := by
  have h0 := hh _ _ (.head _)
  have h1 := hh _ _ (.tail _ (.head _))
  have h2 := hh _ _ (.tail _ (.tail _ (.head _)))
  have h3 := hh _ _ (.tail _ (.tail _ (.tail _ (.head _))))
  clear hh
  simp only [N.den, aAdd, aSub, aMul, aQuo, aRem, true_iff, Bool.false_eq_true, false_iff, bI_ne, ieq_iff, ilt_iff, Classical.not_not] at h0 h1 h2 h3
  generalize hA0 : max 0 (min 18446744073709551615 (i 0)) = a at *
  generalize hB0 : max 0 (min 18446744073709551615 (i 1)) = b at *
  have ha : 0 ≤ a ∧ a ≤ 18446744073709551615 := by omega
  have hb : 0 ≤ b ∧ b ≤ 18446744073709551615 := by omega
  clear hA0 hB0
  obtain ⟨q, r, PU, f1, f2, f3, f4, f5, f6, f7, f8⟩ := udiv_facts a 18446744073709551615 ha (by omega)
  simp only [w_u64, f1, f2] at h0 h1 h2 h3
  have hbb : b = 18446744073709551615 := h2
  subst hbb
  omega
theorem exc_2 (i : Nat → Int) (hh : Holds i [((.eq (.ar .add .u64 (.ar .mul .u64 (.conv .u64 (.ar .quo .i64 (.conv .i64 (.var 0 0 18446744073709551615)) (.conv .i64 (.var 1 0 18446744073709551615)))) (.var 1 0 18446744073709551615)) (.conv .u64 (.ar .rem .i64 (.conv .i64 (.var 0 0 18446744073709551615)) (.conv .i64 (.var 1 0 18446744073709551615))))) (.var 0 0 18446744073709551615)), false), ((.eq (.var 1 0 18446744073709551615) (.lit 18446744073709551615)), false), ((.eq (.var 1 0 18446744073709551615) (.lit 0)), false)]) : False := by
  have h0 := hh _ _ (.head _)
  have h1 := hh _ _ (.tail _ (.head _))
  have h2 := hh _ _ (.tail _ (.tail _ (.head _)))
  clear hh
  simp only [N.den, aAdd, aSub, aMul, aQuo, aRem, true_iff, Bool.false_eq_true, false_iff, bI_ne, ieq_iff, ilt_iff, Classical.not_not] at h0 h1 h2
  generalize hA0 : max 0 (min 18446744073709551615 (i 0)) = a at *
  generalize hB0 : max 0 (min 18446744073709551615 (i 1)) = b at *
  have ha : 0 ≤ a ∧ a ≤ 18446744073709551615 := by omega
  have hb : 0 ≤ b ∧ b ≤ 18446744073709551615 := by omega
  clear hA0 hB0
  obtain ⟨A, B, Q, R, P, e1, e2, e3, e4, e5, e6, e7, e8, e9, e10, e11, e12, e13, e14, e15, e16⟩ := sdiv_facts a b ha hb (by omega) (by omega)
  obtain ⟨q, r, PU, f1, f2, f3, f4, f5, f6, f7, f8⟩ := udiv_facts a b ha (by omega)
  simp only [w_u64, e1, e2, e3, e4, f1, f2] at h0 h1 h2
  omega
theorem exc_3 (i : Nat → Int) (hh : Holds i [((.eq (.ar .add .u64 (.ar .mul .u64 (.ar .quo .u64 (.var 0 0 18446744073709551615) (.var 1 0 18446744073709551615)) (.var 1 0 18446744073709551615)) (.ar .rem .u64 (.var 0 0 18446744073709551615) (.var 1 0 18446744073709551615))) (.var 0 0 18446744073709551615)), false), ((.eq (.ar .add .u64 (.ar .mul .u64 (.conv .u64 (.ar .quo .i64 (.conv .i64 (.var 0 0 18446744073709551615)) (.conv .i64 (.var 1 0 18446744073709551615)))) (.var 1 0 18446744073709551615)) (.conv .u64 (.ar .rem .i64 (.conv .i64 (.var 0 0 18446744073709551615)) (.conv .i64 (.var 1 0 18446744073709551615))))) (.var 0 0 18446744073709551615)), true), ((.eq (.var 1 0 18446744073709551615) (.lit 18446744073709551615)), false), ((.eq (.var 1 0 18446744073709551615) (.lit 0)), false)]) : False := by
  have h0 := hh _ _ (.head _)
  have h1 := hh _ _ (.tail _ (.head _))
  have h2 := hh _ _ (.tail _ (.tail _ (.head _)))
  have h3 := hh _ _ (.tail _ (.tail _ (.tail _ (.head _))))
  clear hh
  simp only [N.den, aAdd, aSub, aMul, aQuo, aRem, true_iff, Bool.false_eq_true, false_iff, bI_ne, ieq_iff, ilt_iff, Classical.not_not] at h0 h1 h2 h3
  generalize hA0 : max 0 (min 18446744073709551615 (i 0)) = a at *
  generalize hB0 : max 0 (min 18446744073709551615 (i 1)) = b at *
  have ha : 0 ≤ a ∧ a ≤ 18446744073709551615 := by omega
  have hb : 0 ≤ b ∧ b ≤ 18446744073709551615 := by omega
  clear hA0 hB0
  obtain ⟨A, B, Q, R, P, e1, e2, e3, e4, e5, e6, e7, e8, e9, e10, e11, e12, e13, e14, e15, e16⟩ := sdiv_facts a b ha hb (by omega) (by omega)
  obtain ⟨q, r, PU, f1, f2, f3, f4, f5, f6, f7, f8⟩ := udiv_facts a b ha (by omega)
  simp only [w_u64, e1, e2, e3, e4, f1, f2] at h0 h1 h2 h3
  omega
theorem exc_4 (i : Nat → Int) (hh : Holds i [((.eq (.var 1 0 18446744073709551615) (.lit 9223372036854775808)), false), ((.lt (.ar .sub .u64 (.lit 0) (.conv .u64 (.ar .rem .i64 (.conv .i64 (.var 0 0 18446744073709551615)) (.conv .i64 (.var 1 0 18446744073709551615))))) (.ar .sub .u64 (.lit 0) (.var 1 0 18446744073709551615))), false), ((.lt (.var 1 0 18446744073709551615) (.lit 9223372036854775808)), false), ((.lt (.conv .u64 (.ar .rem .i64 (.conv .i64 (.var 0 0 18446744073709551615)) (.conv .i64 (.var 1 0 18446744073709551615)))) (.lit 9223372036854775808)), false), ((.eq (.ar .add .u64 (.ar .mul .u64 (.ar .quo .u64 (.var 0 0 18446744073709551615) (.var 1 0 18446744073709551615)) (.var 1 0 18446744073709551615)) (.ar .rem .u64 (.var 0 0 18446744073709551615) (.var 1 0 18446744073709551615))) (.var 0 0 18446744073709551615)), true), ((.eq (.ar .add .u64 (.ar .mul .u64 (.conv .u64 (.ar .quo .i64 (.conv .i64 (.var 0 0 18446744073709551615)) (.conv .i64 (.var 1 0 18446744073709551615)))) (.var 1 0 18446744073709551615)) (.conv .u64 (.ar .rem .i64 (.conv .i64 (.var 0 0 18446744073709551615)) (.conv .i64 (.var 1 0 18446744073709551615))))) (.var 0 0 18446744073709551615)), true), ((.eq (.var 1 0 18446744073709551615) (.lit 18446744073709551615)), false), ((.eq (.var 1 0 18446744073709551615) (.lit 0)), false)]) : False := by
  have h0 := hh _ _ (.head _)
  have h1 := hh _ _ (.tail _ (.head _))
  have h2 := hh _ _ (.tail _ (.tail _ (.head _)))
  have h3 := hh _ _ (.tail _ (.tail _ (.tail _ (.head _))))
  have h4 := hh _ _ (.tail _ (.tail _ (.tail _ (.tail _ (.head _)))))
  have h5 := hh _ _ (.tail _ (.tail _ (.tail _ (.tail _ (.tail _ (.head _))))))
  have h6 := hh _ _ (.tail _ (.tail _ (.tail _ (.tail _ (.tail _ (.tail _ (.head _)))))))
  have h7 := hh _ _ (.tail _ (.tail _ (.tail _ (.tail _ (.tail _ (.tail _ (.tail _ (.head _))))))))
  clear hh
  simp only [N.den, aAdd, aSub, aMul, aQuo, aRem, true_iff, Bool.false_eq_true, false_iff, bI_ne, ieq_iff, ilt_iff, Classical.not_not] at h0 h1 h2 h3 h4 h5 h6 h7
  generalize hA0 : max 0 (min 18446744073709551615 (i 0)) = a at *
  generalize hB0 : max 0 (min 18446744073709551615 (i 1)) = b at *
  have ha : 0 ≤ a ∧ a ≤ 18446744073709551615 := by omega
  have hb : 0 ≤ b ∧ b ≤ 18446744073709551615 := by omega
  clear hA0 hB0
  obtain ⟨A, B, Q, R, P, e1, e2, e3, e4, e5, e6, e7, e8, e9, e10, e11, e12, e13, e14, e15, e16⟩ := sdiv_facts a b ha hb (by omega) (by omega)
  obtain ⟨q, r, PU, f1, f2, f3, f4, f5, f6, f7, f8⟩ := udiv_facts a b ha (by omega)
  simp only [w_u64, e1, e2, e3, e4, f1, f2] at h0 h1 h2 h3 h4 h5 h6 h7
  omega
theorem exc_5 (i : Nat → Int) (hh : Holds i [((.lt (.var 0 0 18446744073709551615) (.lit 9223372036854775808)), true), ((.eq (.var 1 0 18446744073709551615) (.lit 9223372036854775808)), true), ((.lt (.ar .sub .u64 (.lit 0) (.conv .u64 (.ar .rem .i64 (.conv .i64 (.var 0 0 18446744073709551615)) (.conv .i64 (.var 1 0 18446744073709551615))))) (.ar .sub .u64 (.lit 0) (.var 1 0 18446744073709551615))), false), ((.lt (.var 1 0 18446744073709551615) (.lit 9223372036854775808)), false), ((.lt (.conv .u64 (.ar .rem .i64 (.conv .i64 (.var 0 0 18446744073709551615)) (.conv .i64 (.var 1 0 18446744073709551615)))) (.lit 9223372036854775808)), false), ((.eq (.ar .add .u64 (.ar .mul .u64 (.ar .quo .u64 (.var 0 0 18446744073709551615) (.var 1 0 18446744073709551615)) (.var 1 0 18446744073709551615)) (.ar .rem .u64 (.var 0 0 18446744073709551615) (.var 1 0 18446744073709551615))) (.var 0 0 18446744073709551615)), true), ((.eq (.ar .add .u64 (.ar .mul .u64 (.conv .u64 (.ar .quo .i64 (.conv .i64 (.var 0 0 18446744073709551615)) (.conv .i64 (.var 1 0 18446744073709551615)))) (.var 1 0 18446744073709551615)) (.conv .u64 (.ar .rem .i64 (.conv .i64 (.var 0 0 18446744073709551615)) (.conv .i64 (.var 1 0 18446744073709551615))))) (.var 0 0 18446744073709551615)), true), ((.eq (.var 1 0 18446744073709551615) (.lit 18446744073709551615)), false), ((.eq (.var 1 0 18446744073709551615) (.lit 0)), false)]) : False := by
  have h0 := hh _ _ (.head _)
  have h1 := hh _ _ (.tail _ (.head _))
  have h2 := hh _ _ (.tail _ (.tail _ (.head _)))
  have h3 := hh _ _ (.tail _ (.tail _ (.tail _ (.head _))))
  have h4 := hh _ _ (.tail _ (.tail _ (.tail _ (.tail _ (.head _)))))
  have h5 := hh _ _ (.tail _ (.tail _ (.tail _ (.tail _ (.tail _ (.head _))))))
  have h6 := hh _ _ (.tail _ (.tail _ (.tail _ (.tail _ (.tail _ (.tail _ (.head _)))))))
  have h7 := hh _ _ (.tail _ (.tail _ (.tail _ (.tail _ (.tail _ (.tail _ (.tail _ (.head _))))))))
  have h8 := hh _ _ (.tail _ (.tail _ (.tail _ (.tail _ (.tail _ (.tail _ (.tail _ (.tail _ (.head _)))))))))
  clear hh
  simp only [N.den, aAdd, aSub, aMul, aQuo, aRem, true_iff, Bool.false_eq_true, false_iff, bI_ne, ieq_iff, ilt_iff, Classical.not_not] at h0 h1 h2 h3 h4 h5 h6 h7 h8
  generalize hA0 : max 0 (min 18446744073709551615 (i 0)) = a at *
  generalize hB0 : max 0 (min 18446744073709551615 (i 1)) = b at *
  have ha : 0 ≤ a ∧ a ≤ 18446744073709551615 := by omega
  have hb : 0 ≤ b ∧ b ≤ 18446744073709551615 := by omega
  clear hA0 hB0
  obtain ⟨A, B, Q, R, P, e1, e2, e3, e4, e5, e6, e7, e8, e9, e10, e11, e12, e13, e14, e15, e16⟩ := sdiv_facts a b ha hb (by omega) (by omega)
  obtain ⟨q, r, PU, f1, f2, f3, f4, f5, f6, f7, f8⟩ := udiv_facts a b ha (by omega)
  simp only [w_u64, e1, e2, e3, e4, f1, f2] at h0 h1 h2 h3 h4 h5 h6 h7 h8
  omega
theorem exc_6 (i : Nat → Int) (hh : Holds i [((.lt (.ar .rem .u64 (.var 0 0 18446744073709551615) (.var 1 0 18446744073709551615)) (.var 1 0 18446744073709551615)), false), ((.lt (.var 0 0 18446744073709551615) (.lit 9223372036854775808)), false), ((.eq (.var 1 0 18446744073709551615) (.lit 9223372036854775808)), true), ((.lt (.ar .sub .u64 (.lit 0) (.conv .u64 (.ar .rem .i64 (.conv .i64 (.var 0 0 18446744073709551615)) (.conv .i64 (.var 1 0 18446744073709551615))))) (.ar .sub .u64 (.lit 0) (.var 1 0 18446744073709551615))), false), ((.lt (.var 1 0 18446744073709551615) (.lit 9223372036854775808)), false), ((.lt (.conv .u64 (.ar .rem .i64 (.conv .i64 (.var 0 0 18446744073709551615)) (.conv .i64 (.var 1 0 18446744073709551615)))) (.lit 9223372036854775808)), false), ((.eq (.ar .add .u64 (.ar .mul .u64 (.ar .quo .u64 (.var 0 0 18446744073709551615) (.var 1 0 18446744073709551615)) (.var 1 0 18446744073709551615)) (.ar .rem .u64 (.var 0 0 18446744073709551615) (.var 1 0 18446744073709551615))) (.var 0 0 18446744073709551615)), true), ((.eq (.ar .add .u64 (.ar .mul .u64 (.conv .u64 (.ar .quo .i64 (.conv .i64 (.var 0 0 18446744073709551615)) (.conv .i64 (.var 1 0 18446744073709551615)))) (.var 1 0 18446744073709551615)) (.conv .u64 (.ar .rem .i64 (.conv .i64 (.var 0 0 18446744073709551615)) (.conv .i64 (.var 1 0 18446744073709551615))))) (.var 0 0 18446744073709551615)), true), ((.eq (.var 1 0 18446744073709551615) (.lit 18446744073709551615)), false), ((.eq (.var 1 0 18446744073709551615) (.lit 0)), false)]) : False := by
  have h0 := hh _ _ (.head _)
  have h1 := hh _ _ (.tail _ (.head _))
  have h2 := hh _ _ (.tail _ (.tail _ (.head _)))
  have h3 := hh _ _ (.tail _ (.tail _ (.tail _ (.head _))))
  have h4 := hh _ _ (.tail _ (.tail _ (.tail _ (.tail _ (.head _)))))
  have h5 := hh _ _ (.tail _ (.tail _ (.tail _ (.tail _ (.tail _ (.head _))))))
  have h6 := hh _ _ (.tail _ (.tail _ (.tail _ (.tail _ (.tail _ (.tail _ (.head _)))))))
  have h7 := hh _ _ (.tail _ (.tail _ (.tail _ (.tail _ (.tail _ (.tail _ (.tail _ (.head _))))))))
  have h8 := hh _ _ (.tail _ (.tail _ (.tail _ (.tail _ (.tail _ (.tail _ (.tail _ (.tail _ (.head _)))))))))
  have h9 := hh _ _ (.tail _ (.tail _ (.tail _ (.tail _ (.tail _ (.tail _ (.tail _ (.tail _ (.tail _ (.head _))))))))))
  clear hh
  simp only [N.den, aAdd, aSub, aMul, aQuo, aRem, true_iff, Bool.false_eq_true, false_iff, bI_ne, ieq_iff, ilt_iff, Classical.not_not] at h0 h1 h2 h3 h4 h5 h6 h7 h8 h9
  generalize hA0 : max 0 (min 18446744073709551615 (i 0)) = a at *
  generalize hB0 : max 0 (min 18446744073709551615 (i 1)) = b at *
  have ha : 0 ≤ a ∧ a ≤ 18446744073709551615 := by omega
  have hb : 0 ≤ b ∧ b ≤ 18446744073709551615 := by omega
  clear hA0 hB0
  obtain ⟨A, B, Q, R, P, e1, e2, e3, e4, e5, e6, e7, e8, e9, e10, e11, e12, e13, e14, e15, e16⟩ := sdiv_facts a b ha hb (by omega) (by omega)
  obtain ⟨q, r, PU, f1, f2, f3, f4, f5, f6, f7, f8⟩ := udiv_facts a b ha (by omega)
  simp only [w_u64, e1, e2, e3, e4, f1, f2] at h0 h1 h2 h3 h4 h5 h6 h7 h8 h9
  omega
theorem exc_7 (i : Nat → Int) (hh : Holds i [((.eq (.conv .u64 (.ar .rem .i64 (.conv .i64 (.var 0 0 18446744073709551615)) (.conv .i64 (.var 1 0 18446744073709551615)))) (.var 0 0 18446744073709551615)), false), ((.eq (.var 0 0 18446744073709551615) (.lit 9223372036854775808)), false), ((.lt (.ar .rem .u64 (.var 0 0 18446744073709551615) (.var 1 0 18446744073709551615)) (.var 1 0 18446744073709551615)), true), ((.lt (.var 0 0 18446744073709551615) (.lit 9223372036854775808)), false), ((.eq (.var 1 0 18446744073709551615) (.lit 9223372036854775808)), true), ((.lt (.ar .sub .u64 (.lit 0) (.conv .u64 (.ar .rem .i64 (.conv .i64 (.var 0 0 18446744073709551615)) (.conv .i64 (.var 1 0 18446744073709551615))))) (.ar .sub .u64 (.lit 0) (.var 1 0 18446744073709551615))), false), ((.lt (.var 1 0 18446744073709551615) (.lit 9223372036854775808)), false), ((.lt (.conv .u64 (.ar .rem .i64 (.conv .i64 (.var 0 0 18446744073709551615)) (.conv .i64 (.var 1 0 18446744073709551615)))) (.lit 9223372036854775808)), false), ((.eq (.ar .add .u64 (.ar .mul .u64 (.ar .quo .u64 (.var 0 0 18446744073709551615) (.var 1 0 18446744073709551615)) (.var 1 0 18446744073709551615)) (.ar .rem .u64 (.var 0 0 18446744073709551615) (.var 1 0 18446744073709551615))) (.var 0 0 18446744073709551615)), true), ((.eq (.ar .add .u64 (.ar .mul .u64 (.conv .u64 (.ar .quo .i64 (.conv .i64 (.var 0 0 18446744073709551615)) (.conv .i64 (.var 1 0 18446744073709551615)))) (.var 1 0 18446744073709551615)) (.conv .u64 (.ar .rem .i64 (.conv .i64 (.var 0 0 18446744073709551615)) (.conv .i64 (.var 1 0 18446744073709551615))))) (.var 0 0 18446744073709551615)), true), ((.eq (.var 1 0 18446744073709551615) (.lit 18446744073709551615)), false), ((.eq (.var 1 0 18446744073709551615) (.lit 0)), false)]) : False := by
  have h0 := hh _ _ (.head _)
  have h1 := hh _ _ (.tail _ (.head _))
  have h2 := hh _ _ (.tail _ (.tail _ (.head _)))
  have h3 := hh _ _ (.tail _ (.tail _ (.tail _ (.head _))))
  have h4 := hh _ _ (.tail _ (.tail _ (.tail _ (.tail _ (.head _)))))
  have h5 := hh _ _ (.tail _ (.tail _ (.tail _ (.tail _ (.tail _ (.head _))))))
  have h6 := hh _ _ (.tail _ (.tail _ (.tail _ (.tail _ (.tail _ (.tail _ (.head _)))))))
  have h7 := hh _ _ (.tail _ (.tail _ (.tail _ (.tail _ (.tail _ (.tail _ (.tail _ (.head _))))))))
  have h8 := hh _ _ (.tail _ (.tail _ (.tail _ (.tail _ (.tail _ (.tail _ (.tail _ (.tail _ (.head _)))))))))
  have h9 := hh _ _ (.tail _ (.tail _ (.tail _ (.tail _ (.tail _ (.tail _ (.tail _ (.tail _ (.tail _ (.head _))))))))))
  have h10 := hh _ _ (.tail _ (.tail _ (.tail _ (.tail _ (.tail _ (.tail _ (.tail _ (.tail _ (.tail _ (.tail _ (.head _)))))))))))
  have h11 := hh _ _ (.tail _ (.tail _ (.tail _ (.tail _ (.tail _ (.tail _ (.tail _ (.tail _ (.tail _ (.tail _ (.tail _ (.head _))))))))))))
  clear hh
  simp only [N.den, aAdd, aSub, aMul, aQuo, aRem, true_iff, Bool.false_eq_true, false_iff, bI_ne, ieq_iff, ilt_iff, Classical.not_not] at h0 h1 h2 h3 h4 h5 h6 h7 h8 h9 h10 h11
  generalize hA0 : max 0 (min 18446744073709551615 (i 0)) = a at *
  generalize hB0 : max 0 (min 18446744073709551615 (i 1)) = b at *
  have ha : 0 ≤ a ∧ a ≤ 18446744073709551615 := by omega
  have hb : 0 ≤ b ∧ b ≤ 18446744073709551615 := by omega
  clear hA0 hB0
  obtain ⟨A, B, Q, R, P, e1, e2, e3, e4, e5, e6, e7, e8, e9, e10, e11, e12, e13, e14, e15, e16⟩ := sdiv_facts a b ha hb (by omega) (by omega)
  obtain ⟨q, r, PU, f1, f2, f3, f4, f5, f6, f7, f8⟩ := udiv_facts a b ha (by omega)
  simp only [w_u64, e1, e2, e3, e4, f1, f2] at h0 h1 h2 h3 h4 h5 h6 h7 h8 h9 h10 h11
  omega
theorem exc_8 (i : Nat → Int) (hh : Holds i [((.lt (.var 0 0 18446744073709551615) (.lit 9223372036854775808)), true), ((.lt (.ar .sub .u64 (.lit 0) (.conv .u64 (.ar .rem .i64 (.conv .i64 (.var 0 0 18446744073709551615)) (.conv .i64 (.var 1 0 18446744073709551615))))) (.ar .sub .u64 (.lit 0) (.var 1 0 18446744073709551615))), true), ((.lt (.var 1 0 18446744073709551615) (.lit 9223372036854775808)), false), ((.lt (.conv .u64 (.ar .rem .i64 (.conv .i64 (.var 0 0 18446744073709551615)) (.conv .i64 (.var 1 0 18446744073709551615)))) (.lit 9223372036854775808)), false), ((.eq (.ar .add .u64 (.ar .mul .u64 (.ar .quo .u64 (.var 0 0 18446744073709551615) (.var 1 0 18446744073709551615)) (.var 1 0 18446744073709551615)) (.ar .rem .u64 (.var 0 0 18446744073709551615) (.var 1 0 18446744073709551615))) (.var 0 0 18446744073709551615)), true), ((.eq (.ar .add .u64 (.ar .mul .u64 (.conv .u64 (.ar .quo .i64 (.conv .i64 (.var 0 0 18446744073709551615)) (.conv .i64 (.var 1 0 18446744073709551615)))) (.var 1 0 18446744073709551615)) (.conv .u64 (.ar .rem .i64 (.conv .i64 (.var 0 0 18446744073709551615)) (.conv .i64 (.var 1 0 18446744073709551615))))) (.var 0 0 18446744073709551615)), true), ((.eq (.var 1 0 18446744073709551615) (.lit 18446744073709551615)), false), ((.eq (.var 1 0 18446744073709551615) (.lit 0)), false)]) : False := by
  have h0 := hh _ _ (.head _)
  have h1 := hh _ _ (.tail _ (.head _))
  have h2 := hh _ _ (.tail _ (.tail _ (.head _)))
  have h3 := hh _ _ (.tail _ (.tail _ (.tail _ (.head _))))
  have h4 := hh _ _ (.tail _ (.tail _ (.tail _ (.tail _ (.head _)))))
  have h5 := hh _ _ (.tail _ (.tail _ (.tail _ (.tail _ (.tail _ (.head _))))))
  have h6 := hh _ _ (.tail _ (.tail _ (.tail _ (.tail _ (.tail _ (.tail _ (.head _)))))))
  have h7 := hh _ _ (.tail _ (.tail _ (.tail _ (.tail _ (.tail _ (.tail _ (.tail _ (.head _))))))))
  clear hh
  simp only [N.den, aAdd, aSub, aMul, aQuo, aRem, true_iff, Bool.false_eq_true, false_iff, bI_ne, ieq_iff, ilt_iff, Classical.not_not] at h0 h1 h2 h3 h4 h5 h6 h7
  generalize hA0 : max 0 (min 18446744073709551615 (i 0)) = a at *
  generalize hB0 : max 0 (min 18446744073709551615 (i 1)) = b at *
  have ha : 0 ≤ a ∧ a ≤ 18446744073709551615 := by omega
  have hb : 0 ≤ b ∧ b ≤ 18446744073709551615 := by omega
  clear hA0 hB0
  obtain ⟨A, B, Q, R, P, e1, e2, e3, e4, e5, e6, e7, e8, e9, e10, e11, e12, e13, e14, e15, e16⟩ := sdiv_facts a b ha hb (by omega) (by omega)
  obtain ⟨q, r, PU, f1, f2, f3, f4, f5, f6, f7, f8⟩ := udiv_facts a b ha (by omega)
  simp only [w_u64, e1, e2, e3, e4, f1, f2] at h0 h1 h2 h3 h4 h5 h6 h7
  omega
theorem exc_9 (i : Nat → Int) (hh : Holds i [((.lt (.ar .rem .u64 (.var 0 0 18446744073709551615) (.var 1 0 18446744073709551615)) (.var 1 0 18446744073709551615)), false), ((.lt (.var 0 0 18446744073709551615) (.lit 9223372036854775808)), false), ((.lt (.ar .sub .u64 (.lit 0) (.conv .u64 (.ar .rem .i64 (.conv .i64 (.var 0 0 18446744073709551615)) (.conv .i64 (.var 1 0 18446744073709551615))))) (.ar .sub .u64 (.lit 0) (.var 1 0 18446744073709551615))), true), ((.lt (.var 1 0 18446744073709551615) (.lit 9223372036854775808)), false), ((.lt (.conv .u64 (.ar .rem .i64 (.conv .i64 (.var 0 0 18446744073709551615)) (.conv .i64 (.var 1 0 18446744073709551615)))) (.lit 9223372036854775808)), false), ((.eq (.ar .add .u64 (.ar .mul .u64 (.ar .quo .u64 (.var 0 0 18446744073709551615) (.var 1 0 18446744073709551615)) (.var 1 0 18446744073709551615)) (.ar .rem .u64 (.var 0 0 18446744073709551615) (.var 1 0 18446744073709551615))) (.var 0 0 18446744073709551615)), true), ((.eq (.ar .add .u64 (.ar .mul .u64 (.conv .u64 (.ar .quo .i64 (.conv .i64 (.var 0 0 18446744073709551615)) (.conv .i64 (.var 1 0 18446744073709551615)))) (.var 1 0 18446744073709551615)) (.conv .u64 (.ar .rem .i64 (.conv .i64 (.var 0 0 18446744073709551615)) (.conv .i64 (.var 1 0 18446744073709551615))))) (.var 0 0 18446744073709551615)), true), ((.eq (.var 1 0 18446744073709551615) (.lit 18446744073709551615)), false), ((.eq (.var 1 0 18446744073709551615) (.lit 0)), false)]) : False := by
  have h0 := hh _ _ (.head _)
  have h1 := hh _ _ (.tail _ (.head _))
  have h2 := hh _ _ (.tail _ (.tail _ (.head _)))
  have h3 := hh _ _ (.tail _ (.tail _ (.tail _ (.head _))))
  have h4 := hh _ _ (.tail _ (.tail _ (.tail _ (.tail _ (.head _)))))
  have h5 := hh _ _ (.tail _ (.tail _ (.tail _ (.tail _ (.tail _ (.head _))))))
  have h6 := hh _ _ (.tail _ (.tail _ (.tail _ (.tail _ (.tail _ (.tail _ (.head _)))))))
  have h7 := hh _ _ (.tail _ (.tail _ (.tail _ (.tail _ (.tail _ (.tail _ (.tail _ (.head _))))))))
  have h8 := hh _ _ (.tail _ (.tail _ (.tail _ (.tail _ (.tail _ (.tail _ (.tail _ (.tail _ (.head _)))))))))
  clear hh
  simp only [N.den, aAdd, aSub, aMul, aQuo, aRem, true_iff, Bool.false_eq_true, false_iff, bI_ne, ieq_iff, ilt_iff, Classical.not_not] at h0 h1 h2 h3 h4 h5 h6 h7 h8
  generalize hA0 : max 0 (min 18446744073709551615 (i 0)) = a at *
  generalize hB0 : max 0 (min 18446744073709551615 (i 1)) = b at *
  have ha : 0 ≤ a ∧ a ≤ 18446744073709551615 := by omega
  have hb : 0 ≤ b ∧ b ≤ 18446744073709551615 := by omega
  clear hA0 hB0
  obtain ⟨A, B, Q, R, P, e1, e2, e3, e4, e5, e6, e7, e8, e9, e10, e11, e12, e13, e14, e15, e16⟩ := sdiv_facts a b ha hb (by omega) (by omega)
  obtain ⟨q, r, PU, f1, f2, f3, f4, f5, f6, f7, f8⟩ := udiv_facts a b ha (by omega)
  simp only [w_u64, e1, e2, e3, e4, f1, f2] at h0 h1 h2 h3 h4 h5 h6 h7 h8
  omega
theorem exc_10 (i : Nat → Int) (hh : Holds i [((.eq (.conv .u64 (.ar .rem .i64 (.conv .i64 (.var 0 0 18446744073709551615)) (.conv .i64 (.var 1 0 18446744073709551615)))) (.var 0 0 18446744073709551615)), false), ((.eq (.var 0 0 18446744073709551615) (.lit 9223372036854775808)), false), ((.eq (.var 1 0 18446744073709551615) (.lit 9223372036854775808)), true), ((.lt (.ar .rem .u64 (.var 0 0 18446744073709551615) (.var 1 0 18446744073709551615)) (.var 1 0 18446744073709551615)), true), ((.lt (.var 0 0 18446744073709551615) (.lit 9223372036854775808)), false), ((.lt (.ar .sub .u64 (.lit 0) (.conv .u64 (.ar .rem .i64 (.conv .i64 (.var 0 0 18446744073709551615)) (.conv .i64 (.var 1 0 18446744073709551615))))) (.ar .sub .u64 (.lit 0) (.var 1 0 18446744073709551615))), true), ((.lt (.var 1 0 18446744073709551615) (.lit 9223372036854775808)), false), ((.lt (.conv .u64 (.ar .rem .i64 (.conv .i64 (.var 0 0 18446744073709551615)) (.conv .i64 (.var 1 0 18446744073709551615)))) (.lit 9223372036854775808)), false), ((.eq (.ar .add .u64 (.ar .mul .u64 (.ar .quo .u64 (.var 0 0 18446744073709551615) (.var 1 0 18446744073709551615)) (.var 1 0 18446744073709551615)) (.ar .rem .u64 (.var 0 0 18446744073709551615) (.var 1 0 18446744073709551615))) (.var 0 0 18446744073709551615)), true), ((.eq (.ar .add .u64 (.ar .mul .u64 (.conv .u64 (.ar .quo .i64 (.conv .i64 (.var 0 0 18446744073709551615)) (.conv .i64 (.var 1 0 18446744073709551615)))) (.var 1 0 18446744073709551615)) (.conv .u64 (.ar .rem .i64 (.conv .i64 (.var 0 0 18446744073709551615)) (.conv .i64 (.var 1 0 18446744073709551615))))) (.var 0 0 18446744073709551615)), true), ((.eq (.var 1 0 18446744073709551615) (.lit 18446744073709551615)), false), ((.eq (.var 1 0 18446744073709551615) (.lit 0)), false)]) : False := by
  have h0 := hh _ _ (.head _)
  have h1 := hh _ _ (.tail _ (.head _))
  have h2 := hh _ _ (.tail _ (.tail _ (.head _)))
  have h3 := hh _ _ (.tail _ (.tail _ (.tail _ (.head _))))
  have h4 := hh _ _ (.tail _ (.tail _ (.tail _ (.tail _ (.head _)))))
  have h5 := hh _ _ (.tail _ (.tail _ (.tail _ (.tail _ (.tail _ (.head _))))))
  have h6 := hh _ _ (.tail _ (.tail _ (.tail _ (.tail _ (.tail _ (.tail _ (.head _)))))))
  have h7 := hh _ _ (.tail _ (.tail _ (.tail _ (.tail _ (.tail _ (.tail _ (.tail _ (.head _))))))))
  have h8 := hh _ _ (.tail _ (.tail _ (.tail _ (.tail _ (.tail _ (.tail _ (.tail _ (.tail _ (.head _)))))))))
  have h9 := hh _ _ (.tail _ (.tail _ (.tail _ (.tail _ (.tail _ (.tail _ (.tail _ (.tail _ (.tail _ (.head _))))))))))
  have h10 := hh _ _ (.tail _ (.tail _ (.tail _ (.tail _ (.tail _ (.tail _ (.tail _ (.tail _ (.tail _ (.tail _ (.head _)))))))))))
  have h11 := hh _ _ (.tail _ (.tail _ (.tail _ (.tail _ (.tail _ (.tail _ (.tail _ (.tail _ (.tail _ (.tail _ (.tail _ (.head _))))))))))))
  clear hh
  simp only [N.den, aAdd, aSub, aMul, aQuo, aRem, true_iff, Bool.false_eq_true, false_iff, bI_ne, ieq_iff, ilt_iff, Classical.not_not] at h0 h1 h2 h3 h4 h5 h6 h7 h8 h9 h10 h11
  generalize hA0 : max 0 (min 18446744073709551615 (i 0)) = a at *
  generalize hB0 : max 0 (min 18446744073709551615 (i 1)) = b at *
  have ha : 0 ≤ a ∧ a ≤ 18446744073709551615 := by omega
  have hb : 0 ≤ b ∧ b ≤ 18446744073709551615 := by omega
  clear hA0 hB0
  obtain ⟨A, B, Q, R, P, e1, e2, e3, e4, e5, e6, e7, e8, e9, e10, e11, e12, e13, e14, e15, e16⟩ := sdiv_facts a b ha hb (by omega) (by omega)
  obtain ⟨q, r, PU, f1, f2, f3, f4, f5, f6, f7, f8⟩ := udiv_facts a b ha (by omega)
  simp only [w_u64, e1, e2, e3, e4, f1, f2] at h0 h1 h2 h3 h4 h5 h6 h7 h8 h9 h10 h11
  omega
theorem exc_11 (i : Nat → Int) (hh : Holds i [((.lt (.ar .sub .u64 (.lit 0) (.conv .u64 (.ar .rem .i64 (.conv .i64 (.var 0 0 18446744073709551615)) (.conv .i64 (.var 1 0 18446744073709551615))))) (.var 1 0 18446744073709551615)), false), ((.lt (.var 1 0 18446744073709551615) (.lit 9223372036854775808)), true), ((.lt (.conv .u64 (.ar .rem .i64 (.conv .i64 (.var 0 0 18446744073709551615)) (.conv .i64 (.var 1 0 18446744073709551615)))) (.lit 9223372036854775808)), false), ((.eq (.ar .add .u64 (.ar .mul .u64 (.ar .quo .u64 (.var 0 0 18446744073709551615) (.var 1 0 18446744073709551615)) (.var 1 0 18446744073709551615)) (.ar .rem .u64 (.var 0 0 18446744073709551615) (.var 1 0 18446744073709551615))) (.var 0 0 18446744073709551615)), true), ((.eq (.ar .add .u64 (.ar .mul .u64 (.conv .u64 (.ar .quo .i64 (.conv .i64 (.var 0 0 18446744073709551615)) (.conv .i64 (.var 1 0 18446744073709551615)))) (.var 1 0 18446744073709551615)) (.conv .u64 (.ar .rem .i64 (.conv .i64 (.var 0 0 18446744073709551615)) (.conv .i64 (.var 1 0 18446744073709551615))))) (.var 0 0 18446744073709551615)), true), ((.eq (.var 1 0 18446744073709551615) (.lit 18446744073709551615)), false), ((.eq (.var 1 0 18446744073709551615) (.lit 0)), false)]) : False := by
  have h0 := hh _ _ (.head _)
  have h1 := hh _ _ (.tail _ (.head _))
  have h2 := hh _ _ (.tail _ (.tail _ (.head _)))
  have h3 := hh _ _ (.tail _ (.tail _ (.tail _ (.head _))))
  have h4 := hh _ _ (.tail _ (.tail _ (.tail _ (.tail _ (.head _)))))
  have h5 := hh _ _ (.tail _ (.tail _ (.tail _ (.tail _ (.tail _ (.head _))))))
  have h6 := hh _ _ (.tail _ (.tail _ (.tail _ (.tail _ (.tail _ (.tail _ (.head _)))))))
  clear hh
  simp only [N.den, aAdd, aSub, aMul, aQuo, aRem, true_iff, Bool.false_eq_true, false_iff, bI_ne, ieq_iff, ilt_iff, Classical.not_not] at h0 h1 h2 h3 h4 h5 h6
  generalize hA0 : max 0 (min 18446744073709551615 (i 0)) = a at *
  generalize hB0 : max 0 (min 18446744073709551615 (i 1)) = b at *
  have ha : 0 ≤ a ∧ a ≤ 18446744073709551615 := by omega
  have hb : 0 ≤ b ∧ b ≤ 18446744073709551615 := by omega
  clear hA0 hB0
  obtain ⟨A, B, Q, R, P, e1, e2, e3, e4, e5, e6, e7, e8, e9, e10, e11, e12, e13, e14, e15, e16⟩ := sdiv_facts a b ha hb (by omega) (by omega)
  obtain ⟨q, r, PU, f1, f2, f3, f4, f5, f6, f7, f8⟩ := udiv_facts a b ha (by omega)
  simp only [w_u64, e1, e2, e3, e4, f1, f2] at h0 h1 h2 h3 h4 h5 h6
  omega
theorem exc_12 (i : Nat → Int) (hh : Holds i [((.lt (.var 0 0 18446744073709551615) (.lit 9223372036854775808)), true), ((.lt (.ar .sub .u64 (.lit 0) (.conv .u64 (.ar .rem .i64 (.conv .i64 (.var 0 0 18446744073709551615)) (.conv .i64 (.var 1 0 18446744073709551615))))) (.var 1 0 18446744073709551615)), true), ((.lt (.var 1 0 18446744073709551615) (.lit 9223372036854775808)), true), ((.lt (.conv .u64 (.ar .rem .i64 (.conv .i64 (.var 0 0 18446744073709551615)) (.conv .i64 (.var 1 0 18446744073709551615)))) (.lit 9223372036854775808)), false), ((.eq (.ar .add .u64 (.ar .mul .u64 (.ar .quo .u64 (.var 0 0 18446744073709551615) (.var 1 0 18446744073709551615)) (.var 1 0 18446744073709551615)) (.ar .rem .u64 (.var 0 0 18446744073709551615) (.var 1 0 18446744073709551615))) (.var 0 0 18446744073709551615)), true), ((.eq (.ar .add .u64 (.ar .mul .u64 (.conv .u64 (.ar .quo .i64 (.conv .i64 (.var 0 0 18446744073709551615)) (.conv .i64 (.var 1 0 18446744073709551615)))) (.var 1 0 18446744073709551615)) (.conv .u64 (.ar .rem .i64 (.conv .i64 (.var 0 0 18446744073709551615)) (.conv .i64 (.var 1 0 18446744073709551615))))) (.var 0 0 18446744073709551615)), true), ((.eq (.var 1 0 18446744073709551615) (.lit 18446744073709551615)), false), ((.eq (.var 1 0 18446744073709551615) (.lit 0)), false)]) : False := by
  have h0 := hh _ _ (.head _)
  have h1 := hh _ _ (.tail _ (.head _))
  have h2 := hh _ _ (.tail _ (.tail _ (.head _)))
  have h3 := hh _ _ (.tail _ (.tail _ (.tail _ (.head _))))
  have h4 := hh _ _ (.tail _ (.tail _ (.tail _ (.tail _ (.head _)))))
  have h5 := hh _ _ (.tail _ (.tail _ (.tail _ (.tail _ (.tail _ (.head _))))))
  have h6 := hh _ _ (.tail _ (.tail _ (.tail _ (.tail _ (.tail _ (.tail _ (.head _)))))))
  have h7 := hh _ _ (.tail _ (.tail _ (.tail _ (.tail _ (.tail _ (.tail _ (.tail _ (.head _))))))))
  clear hh
  simp only [N.den, aAdd, aSub, aMul, aQuo, aRem, true_iff, Bool.false_eq_true, false_iff, bI_ne, ieq_iff, ilt_iff, Classical.not_not] at h0 h1 h2 h3 h4 h5 h6 h7
  generalize hA0 : max 0 (min 18446744073709551615 (i 0)) = a at *
  generalize hB0 : max 0 (min 18446744073709551615 (i 1)) = b at *
  have ha : 0 ≤ a ∧ a ≤ 18446744073709551615 := by omega
  have hb : 0 ≤ b ∧ b ≤ 18446744073709551615 := by omega
  clear hA0 hB0
  obtain ⟨A, B, Q, R, P, e1, e2, e3, e4, e5, e6, e7, e8, e9, e10, e11, e12, e13, e14, e15, e16⟩ := sdiv_facts a b ha hb (by omega) (by omega)
  obtain ⟨q, r, PU, f1, f2, f3, f4, f5, f6, f7, f8⟩ := udiv_facts a b ha (by omega)
  simp only [w_u64, e1, e2, e3, e4, f1, f2] at h0 h1 h2 h3 h4 h5 h6 h7
  omega
theorem exc_13 (i : Nat → Int) (hh : Holds i [((.lt (.ar .rem .u64 (.var 0 0 18446744073709551615) (.var 1 0 18446744073709551615)) (.var 1 0 18446744073709551615)), false), ((.lt (.var 0 0 18446744073709551615) (.lit 9223372036854775808)), false), ((.lt (.ar .sub .u64 (.lit 0) (.conv .u64 (.ar .rem .i64 (.conv .i64 (.var 0 0 18446744073709551615)) (.conv .i64 (.var 1 0 18446744073709551615))))) (.var 1 0 18446744073709551615)), true), ((.lt (.var 1 0 18446744073709551615) (.lit 9223372036854775808)), true), ((.lt (.conv .u64 (.ar .rem .i64 (.conv .i64 (.var 0 0 18446744073709551615)) (.conv .i64 (.var 1 0 18446744073709551615)))) (.lit 9223372036854775808)), false), ((.eq (.ar .add .u64 (.ar .mul .u64 (.ar .quo .u64 (.var 0 0 18446744073709551615) (.var 1 0 18446744073709551615)) (.var 1 0 18446744073709551615)) (.ar .rem .u64 (.var 0 0 18446744073709551615) (.var 1 0 18446744073709551615))) (.var 0 0 18446744073709551615)), true), ((.eq (.ar .add .u64 (.ar .mul .u64 (.conv .u64 (.ar .quo .i64 (.conv .i64 (.var 0 0 18446744073709551615)) (.conv .i64 (.var 1 0 18446744073709551615)))) (.var 1 0 18446744073709551615)) (.conv .u64 (.ar .rem .i64 (.conv .i64 (.var 0 0 18446744073709551615)) (.conv .i64 (.var 1 0 18446744073709551615))))) (.var 0 0 18446744073709551615)), true), ((.eq (.var 1 0 18446744073709551615) (.lit 18446744073709551615)), false), ((.eq (.var 1 0 18446744073709551615) (.lit 0)), false)]) : False := by
  have h0 := hh _ _ (.head _)
  have h1 := hh _ _ (.tail _ (.head _))
  have h2 := hh _ _ (.tail _ (.tail _ (.head _)))
  have h3 := hh _ _ (.tail _ (.tail _ (.tail _ (.head _))))
  have h4 := hh _ _ (.tail _ (.tail _ (.tail _ (.tail _ (.head _)))))
  have h5 := hh _ _ (.tail _ (.tail _ (.tail _ (.tail _ (.tail _ (.head _))))))
  have h6 := hh _ _ (.tail _ (.tail _ (.tail _ (.tail _ (.tail _ (.tail _ (.head _)))))))
  have h7 := hh _ _ (.tail _ (.tail _ (.tail _ (.tail _ (.tail _ (.tail _ (.tail _ (.head _))))))))
  have h8 := hh _ _ (.tail _ (.tail _ (.tail _ (.tail _ (.tail _ (.tail _ (.tail _ (.tail _ (.head _)))))))))
  clear hh
  simp only [N.den, aAdd, aSub, aMul, aQuo, aRem, true_iff, Bool.false_eq_true, false_iff, bI_ne, ieq_iff, ilt_iff, Classical.not_not] at h0 h1 h2 h3 h4 h5 h6 h7 h8
  generalize hA0 : max 0 (min 18446744073709551615 (i 0)) = a at *
  generalize hB0 : max 0 (min 18446744073709551615 (i 1)) = b at *
  have ha : 0 ≤ a ∧ a ≤ 18446744073709551615 := by omega
  have hb : 0 ≤ b ∧ b ≤ 18446744073709551615 := by omega
  clear hA0 hB0
  obtain ⟨A, B, Q, R, P, e1, e2, e3, e4, e5, e6, e7, e8, e9, e10, e11, e12, e13, e14, e15, e16⟩ := sdiv_facts a b ha hb (by omega) (by omega)
  obtain ⟨q, r, PU, f1, f2, f3, f4, f5, f6, f7, f8⟩ := udiv_facts a b ha (by omega)
  simp only [w_u64, e1, e2, e3, e4, f1, f2] at h0 h1 h2 h3 h4 h5 h6 h7 h8
  omega
theorem exc_14 (i : Nat → Int) (hh : Holds i [((.eq (.var 1 0 18446744073709551615) (.lit 9223372036854775808)), false), ((.lt (.conv .u64 (.ar .rem .i64 (.conv .i64 (.var 0 0 18446744073709551615)) (.conv .i64 (.var 1 0 18446744073709551615)))) (.ar .sub .u64 (.lit 0) (.var 1 0 18446744073709551615))), false), ((.lt (.var 1 0 18446744073709551615) (.lit 9223372036854775808)), false), ((.lt (.conv .u64 (.ar .rem .i64 (.conv .i64 (.var 0 0 18446744073709551615)) (.conv .i64 (.var 1 0 18446744073709551615)))) (.lit 9223372036854775808)), true), ((.eq (.ar .add .u64 (.ar .mul .u64 (.ar .quo .u64 (.var 0 0 18446744073709551615) (.var 1 0 18446744073709551615)) (.var 1 0 18446744073709551615)) (.ar .rem .u64 (.var 0 0 18446744073709551615) (.var 1 0 18446744073709551615))) (.var 0 0 18446744073709551615)), true), ((.eq (.ar .add .u64 (.ar .mul .u64 (.conv .u64 (.ar .quo .i64 (.conv .i64 (.var 0 0 18446744073709551615)) (.conv .i64 (.var 1 0 18446744073709551615)))) (.var 1 0 18446744073709551615)) (.conv .u64 (.ar .rem .i64 (.conv .i64 (.var 0 0 18446744073709551615)) (.conv .i64 (.var 1 0 18446744073709551615))))) (.var 0 0 18446744073709551615)), true), ((.eq (.var 1 0 18446744073709551615) (.lit 18446744073709551615)), false), ((.eq (.var 1 0 18446744073709551615) (.lit 0)), false)]) : False := by
  have h0 := hh _ _ (.head _)
  have h1 := hh _ _ (.tail _ (.head _))
  have h2 := hh _ _ (.tail _ (.tail _ (.head _)))
  have h3 := hh _ _ (.tail _ (.tail _ (.tail _ (.head _))))
  have h4 := hh _ _ (.tail _ (.tail _ (.tail _ (.tail _ (.head _)))))
  have h5 := hh _ _ (.tail _ (.tail _ (.tail _ (.tail _ (.tail _ (.head _))))))
  have h6 := hh _ _ (.tail _ (.tail _ (.tail _ (.tail _ (.tail _ (.tail _ (.head _)))))))
  have h7 := hh _ _ (.tail _ (.tail _ (.tail _ (.tail _ (.tail _ (.tail _ (.tail _ (.head _))))))))
  clear hh
  simp only [N.den, aAdd, aSub, aMul, aQuo, aRem, true_iff, Bool.false_eq_true, false_iff, bI_ne, ieq_iff, ilt_iff, Classical.not_not] at h0 h1 h2 h3 h4 h5 h6 h7
  generalize hA0 : max 0 (min 18446744073709551615 (i 0)) = a at *
  generalize hB0 : max 0 (min 18446744073709551615 (i 1)) = b at *
  have ha : 0 ≤ a ∧ a ≤ 18446744073709551615 := by omega
  have hb : 0 ≤ b ∧ b ≤ 18446744073709551615 := by omega
  clear hA0 hB0
  obtain ⟨A, B, Q, R, P, e1, e2, e3, e4, e5, e6, e7, e8, e9, e10, e11, e12, e13, e14, e15, e16⟩ := sdiv_facts a b ha hb (by omega) (by omega)
  obtain ⟨q, r, PU, f1, f2, f3, f4, f5, f6, f7, f8⟩ := udiv_facts a b ha (by omega)
  simp only [w_u64, e1, e2, e3, e4, f1, f2] at h0 h1 h2 h3 h4 h5 h6 h7
  omega
theorem exc_15 (i : Nat → Int) (hh : Holds i [((.lt (.ar .rem .u64 (.var 0 0 18446744073709551615) (.var 1 0 18446744073709551615)) (.var 1 0 18446744073709551615)), false), ((.eq (.conv .u64 (.ar .rem .i64 (.conv .i64 (.var 0 0 18446744073709551615)) (.conv .i64 (.var 1 0 18446744073709551615)))) (.lit 0)), true), ((.eq (.var 1 0 18446744073709551615) (.lit 9223372036854775808)), true), ((.lt (.conv .u64 (.ar .rem .i64 (.conv .i64 (.var 0 0 18446744073709551615)) (.conv .i64 (.var 1 0 18446744073709551615)))) (.ar .sub .u64 (.lit 0) (.var 1 0 18446744073709551615))), false), ((.lt (.var 1 0 18446744073709551615) (.lit 9223372036854775808)), false), ((.lt (.conv .u64 (.ar .rem .i64 (.conv .i64 (.var 0 0 18446744073709551615)) (.conv .i64 (.var 1 0 18446744073709551615)))) (.lit 9223372036854775808)), true), ((.eq (.ar .add .u64 (.ar .mul .u64 (.ar .quo .u64 (.var 0 0 18446744073709551615) (.var 1 0 18446744073709551615)) (.var 1 0 18446744073709551615)) (.ar .rem .u64 (.var 0 0 18446744073709551615) (.var 1 0 18446744073709551615))) (.var 0 0 18446744073709551615)), true), ((.eq (.ar .add .u64 (.ar .mul .u64 (.conv .u64 (.ar .quo .i64 (.conv .i64 (.var 0 0 18446744073709551615)) (.conv .i64 (.var 1 0 18446744073709551615)))) (.var 1 0 18446744073709551615)) (.conv .u64 (.ar .rem .i64 (.conv .i64 (.var 0 0 18446744073709551615)) (.conv .i64 (.var 1 0 18446744073709551615))))) (.var 0 0 18446744073709551615)), true), ((.eq (.var 1 0 18446744073709551615) (.lit 18446744073709551615)), false), ((.eq (.var 1 0 18446744073709551615) (.lit 0)), false)]) : False := by
  have h0 := hh _ _ (.head _)
  have h1 := hh _ _ (.tail _ (.head _))
  have h2 := hh _ _ (.tail _ (.tail _ (.head _)))
  have h3 := hh _ _ (.tail _ (.tail _ (.tail _ (.head _))))
  have h4 := hh _ _ (.tail _ (.tail _ (.tail _ (.tail _ (.head _)))))
  have h5 := hh _ _ (.tail _ (.tail _ (.tail _ (.tail _ (.tail _ (.head _))))))
  have h6 := hh _ _ (.tail _ (.tail _ (.tail _ (.tail _ (.tail _ (.tail _ (.head _)))))))
  have h7 := hh _ _ (.tail _ (.tail _ (.tail _ (.tail _ (.tail _ (.tail _ (.tail _ (.head _))))))))
  have h8 := hh _ _ (.tail _ (.tail _ (.tail _ (.tail _ (.tail _ (.tail _ (.tail _ (.tail _ (.head _)))))))))
  have h9 := hh _ _ (.tail _ (.tail _ (.tail _ (.tail _ (.tail _ (.tail _ (.tail _ (.tail _ (.tail _ (.head _))))))))))
  clear hh
  simp only [N.den, aAdd, aSub, aMul, aQuo, aRem, true_iff, Bool.false_eq_true, false_iff, bI_ne, ieq_iff, ilt_iff, Classical.not_not] at h0 h1 h2 h3 h4 h5 h6 h7 h8 h9
  generalize hA0 : max 0 (min 18446744073709551615 (i 0)) = a at *
  generalize hB0 : max 0 (min 18446744073709551615 (i 1)) = b at *
  have ha : 0 ≤ a ∧ a ≤ 18446744073709551615 := by omega
  have hb : 0 ≤ b ∧ b ≤ 18446744073709551615 := by omega
  clear hA0 hB0
  obtain ⟨A, B, Q, R, P, e1, e2, e3, e4, e5, e6, e7, e8, e9, e10, e11, e12, e13, e14, e15, e16⟩ := sdiv_facts a b ha hb (by omega) (by omega)
  obtain ⟨q, r, PU, f1, f2, f3, f4, f5, f6, f7, f8⟩ := udiv_facts a b ha (by omega)
  simp only [w_u64, e1, e2, e3, e4, f1, f2] at h0 h1 h2 h3 h4 h5 h6 h7 h8 h9
  omega
theorem exc_16 (i : Nat → Int) (hh : Holds i [((.eq (.conv .u64 (.ar .rem .i64 (.conv .i64 (.var 0 0 18446744073709551615)) (.conv .i64 (.var 1 0 18446744073709551615)))) (.var 0 0 18446744073709551615)), false), ((.eq (.var 0 0 18446744073709551615) (.lit 9223372036854775808)), false), ((.lt (.ar .rem .u64 (.var 0 0 18446744073709551615) (.var 1 0 18446744073709551615)) (.var 1 0 18446744073709551615)), true), ((.eq (.conv .u64 (.ar .rem .i64 (.conv .i64 (.var 0 0 18446744073709551615)) (.conv .i64 (.var 1 0 18446744073709551615)))) (.lit 0)), true), ((.eq (.var 1 0 18446744073709551615) (.lit 9223372036854775808)), true), ((.lt (.conv .u64 (.ar .rem .i64 (.conv .i64 (.var 0 0 18446744073709551615)) (.conv .i64 (.var 1 0 18446744073709551615)))) (.ar .sub .u64 (.lit 0) (.var 1 0 18446744073709551615))), false), ((.lt (.var 1 0 18446744073709551615) (.lit 9223372036854775808)), false), ((.lt (.conv .u64 (.ar .rem .i64 (.conv .i64 (.var 0 0 18446744073709551615)) (.conv .i64 (.var 1 0 18446744073709551615)))) (.lit 9223372036854775808)), true), ((.eq (.ar .add .u64 (.ar .mul .u64 (.ar .quo .u64 (.var 0 0 18446744073709551615) (.var 1 0 18446744073709551615)) (.var 1 0 18446744073709551615)) (.ar .rem .u64 (.var 0 0 18446744073709551615) (.var 1 0 18446744073709551615))) (.var 0 0 18446744073709551615)), true), ((.eq (.ar .add .u64 (.ar .mul .u64 (.conv .u64 (.ar .quo .i64 (.conv .i64 (.var 0 0 18446744073709551615)) (.conv .i64 (.var 1 0 18446744073709551615)))) (.var 1 0 18446744073709551615)) (.conv .u64 (.ar .rem .i64 (.conv .i64 (.var 0 0 18446744073709551615)) (.conv .i64 (.var 1 0 18446744073709551615))))) (.var 0 0 18446744073709551615)), true), ((.eq (.var 1 0 18446744073709551615) (.lit 18446744073709551615)), false), ((.eq (.var 1 0 18446744073709551615) (.lit 0)), false)]) : False := by
  have h0 := hh _ _ (.head _)
  have h1 := hh _ _ (.tail _ (.head _))
  have h2 := hh _ _ (.tail _ (.tail _ (.head _)))
  have h3 := hh _ _ (.tail _ (.tail _ (.tail _ (.head _))))
  have h4 := hh _ _ (.tail _ (.tail _ (.tail _ (.tail _ (.head _)))))
  have h5 := hh _ _ (.tail _ (.tail _ (.tail _ (.tail _ (.tail _ (.head _))))))
  have h6 := hh _ _ (.tail _ (.tail _ (.tail _ (.tail _ (.tail _ (.tail _ (.head _)))))))
  have h7 := hh _ _ (.tail _ (.tail _ (.tail _ (.tail _ (.tail _ (.tail _ (.tail _ (.head _))))))))
  have h8 := hh _ _ (.tail _ (.tail _ (.tail _ (.tail _ (.tail _ (.tail _ (.tail _ (.tail _ (.head _)))))))))
  have h9 := hh _ _ (.tail _ (.tail _ (.tail _ (.tail _ (.tail _ (.tail _ (.tail _ (.tail _ (.tail _ (.head _))))))))))
  have h10 := hh _ _ (.tail _ (.tail _ (.tail _ (.tail _ (.tail _ (.tail _ (.tail _ (.tail _ (.tail _ (.tail _ (.head _)))))))))))
  have h11 := hh _ _ (.tail _ (.tail _ (.tail _ (.tail _ (.tail _ (.tail _ (.tail _ (.tail _ (.tail _ (.tail _ (.tail _ (.head _))))))))))))
  clear hh
  simp only [N.den, aAdd, aSub, aMul, aQuo, aRem, true_iff, Bool.false_eq_true, false_iff, bI_ne, ieq_iff, ilt_iff, Classical.not_not] at h0 h1 h2 h3 h4 h5 h6 h7 h8 h9 h10 h11
  generalize hA0 : max 0 (min 18446744073709551615 (i 0)) = a at *
  generalize hB0 : max 0 (min 18446744073709551615 (i 1)) = b at *
  have ha : 0 ≤ a ∧ a ≤ 18446744073709551615 := by omega
  have hb : 0 ≤ b ∧ b ≤ 18446744073709551615 := by omega
  clear hA0 hB0
  obtain ⟨A, B, Q, R, P, e1, e2, e3, e4, e5, e6, e7, e8, e9, e10, e11, e12, e13, e14, e15, e16⟩ := sdiv_facts a b ha hb (by omega) (by omega)
  obtain ⟨q, r, PU, f1, f2, f3, f4, f5, f6, f7, f8⟩ := udiv_facts a b ha (by omega)
  simp only [w_u64, e1, e2, e3, e4, f1, f2] at h0 h1 h2 h3 h4 h5 h6 h7 h8 h9 h10 h11
  omega
theorem exc_17 (i : Nat → Int) (hh : Holds i [((.lt (.var 0 0 18446744073709551615) (.lit 9223372036854775808)), false), ((.eq (.conv .u64 (.ar .rem .i64 (.conv .i64 (.var 0 0 18446744073709551615)) (.conv .i64 (.var 1 0 18446744073709551615)))) (.lit 0)), false), ((.eq (.var 1 0 18446744073709551615) (.lit 9223372036854775808)), true), ((.lt (.conv .u64 (.ar .rem .i64 (.conv .i64 (.var 0 0 18446744073709551615)) (.conv .i64 (.var 1 0 18446744073709551615)))) (.ar .sub .u64 (.lit 0) (.var 1 0 18446744073709551615))), false), ((.lt (.var 1 0 18446744073709551615) (.lit 9223372036854775808)), false), ((.lt (.conv .u64 (.ar .rem .i64 (.conv .i64 (.var 0 0 18446744073709551615)) (.conv .i64 (.var 1 0 18446744073709551615)))) (.lit 9223372036854775808)), true), ((.eq (.ar .add .u64 (.ar .mul .u64 (.ar .quo .u64 (.var 0 0 18446744073709551615) (.var 1 0 18446744073709551615)) (.var 1 0 18446744073709551615)) (.ar .rem .u64 (.var 0 0 18446744073709551615) (.var 1 0 18446744073709551615))) (.var 0 0 18446744073709551615)), true), ((.eq (.ar .add .u64 (.ar .mul .u64 (.conv .u64 (.ar .quo .i64 (.conv .i64 (.var 0 0 18446744073709551615)) (.conv .i64 (.var 1 0 18446744073709551615)))) (.var 1 0 18446744073709551615)) (.conv .u64 (.ar .rem .i64 (.conv .i64 (.var 0 0 18446744073709551615)) (.conv .i64 (.var 1 0 18446744073709551615))))) (.var 0 0 18446744073709551615)), true), ((.eq (.var 1 0 18446744073709551615) (.lit 18446744073709551615)), false), ((.eq (.var 1 0 18446744073709551615) (.lit 0)), false)]) : False := by
  have h0 := hh _ _ (.head _)
  have h1 := hh _ _ (.tail _ (.head _))
  have h2 := hh _ _ (.tail _ (.tail _ (.head _)))
  have h3 := hh _ _ (.tail _ (.tail _ (.tail _ (.head _))))
  have h4 := hh _ _ (.tail _ (.tail _ (.tail _ (.tail _ (.head _)))))
  have h5 := hh _ _ (.tail _ (.tail _ (.tail _ (.tail _ (.tail _ (.head _))))))
  have h6 := hh _ _ (.tail _ (.tail _ (.tail _ (.tail _ (.tail _ (.tail _ (.head _)))))))
  have h7 := hh _ _ (.tail _ (.tail _ (.tail _ (.tail _ (.tail _ (.tail _ (.tail _ (.head _))))))))
  have h8 := hh _ _ (.tail _ (.tail _ (.tail _ (.tail _ (.tail _ (.tail _ (.tail _ (.tail _ (.head _)))))))))
  have h9 := hh _ _ (.tail _ (.tail _ (.tail _ (.tail _ (.tail _ (.tail _ (.tail _ (.tail _ (.tail _ (.head _))))))))))
  clear hh
  simp only [N.den, aAdd, aSub, aMul, aQuo, aRem, true_iff, Bool.false_eq_true, false_iff, bI_ne, ieq_iff, ilt_iff, Classical.not_not] at h0 h1 h2 h3 h4 h5 h6 h7 h8 h9
  generalize hA0 : max 0 (min 18446744073709551615 (i 0)) = a at *
  generalize hB0 : max 0 (min 18446744073709551615 (i 1)) = b at *
  have ha : 0 ≤ a ∧ a ≤ 18446744073709551615 := by omega
  have hb : 0 ≤ b ∧ b ≤ 18446744073709551615 := by omega
  clear hA0 hB0
  obtain ⟨A, B, Q, R, P, e1, e2, e3, e4, e5, e6, e7, e8, e9, e10, e11, e12, e13, e14, e15, e16⟩ := sdiv_facts a b ha hb (by omega) (by omega)
  obtain ⟨q, r, PU, f1, f2, f3, f4, f5, f6, f7, f8⟩ := udiv_facts a b ha (by omega)
  simp only [w_u64, e1, e2, e3, e4, f1, f2] at h0 h1 h2 h3 h4 h5 h6 h7 h8 h9
  omega
theorem exc_18 (i : Nat → Int) (hh : Holds i [((.lt (.ar .rem .u64 (.var 0 0 18446744073709551615) (.var 1 0 18446744073709551615)) (.var 1 0 18446744073709551615)), false), ((.lt (.var 0 0 18446744073709551615) (.lit 9223372036854775808)), true), ((.eq (.conv .u64 (.ar .rem .i64 (.conv .i64 (.var 0 0 18446744073709551615)) (.conv .i64 (.var 1 0 18446744073709551615)))) (.lit 0)), false), ((.eq (.var 1 0 18446744073709551615) (.lit 9223372036854775808)), true), ((.lt (.conv .u64 (.ar .rem .i64 (.conv .i64 (.var 0 0 18446744073709551615)) (.conv .i64 (.var 1 0 18446744073709551615)))) (.ar .sub .u64 (.lit 0) (.var 1 0 18446744073709551615))), false), ((.lt (.var 1 0 18446744073709551615) (.lit 9223372036854775808)), false), ((.lt (.conv .u64 (.ar .rem .i64 (.conv .i64 (.var 0 0 18446744073709551615)) (.conv .i64 (.var 1 0 18446744073709551615)))) (.lit 9223372036854775808)), true), ((.eq (.ar .add .u64 (.ar .mul .u64 (.ar .quo .u64 (.var 0 0 18446744073709551615) (.var 1 0 18446744073709551615)) (.var 1 0 18446744073709551615)) (.ar .rem .u64 (.var 0 0 18446744073709551615) (.var 1 0 18446744073709551615))) (.var 0 0 18446744073709551615)), true), ((.eq (.ar .add .u64 (.ar .mul .u64 (.conv .u64 (.ar .quo .i64 (.conv .i64 (.var 0 0 18446744073709551615)) (.conv .i64 (.var 1 0 18446744073709551615)))) (.var 1 0 18446744073709551615)) (.conv .u64 (.ar .rem .i64 (.conv .i64 (.var 0 0 18446744073709551615)) (.conv .i64 (.var 1 0 18446744073709551615))))) (.var 0 0 18446744073709551615)), true), ((.eq (.var 1 0 18446744073709551615) (.lit 18446744073709551615)), false), ((.eq (.var 1 0 18446744073709551615) (.lit 0)), false)]) : False := by
  have h0 := hh _ _ (.head _)
  have h1 := hh _ _ (.tail _ (.head _))
  have h2 := hh _ _ (.tail _ (.tail _ (.head _)))
  have h3 := hh _ _ (.tail _ (.tail _ (.tail _ (.head _))))
  have h4 := hh _ _ (.tail _ (.tail _ (.tail _ (.tail _ (.head _)))))
  have h5 := hh _ _ (.tail _ (.tail _ (.tail _ (.tail _ (.tail _ (.head _))))))
  have h6 := hh _ _ (.tail _ (.tail _ (.tail _ (.tail _ (.tail _ (.tail _ (.head _)))))))
  have h7 := hh _ _ (.tail _ (.tail _ (.tail _ (.tail _ (.tail _ (.tail _ (.tail _ (.head _))))))))
  have h8 := hh _ _ (.tail _ (.tail _ (.tail _ (.tail _ (.tail _ (.tail _ (.tail _ (.tail _ (.head _)))))))))
  have h9 := hh _ _ (.tail _ (.tail _ (.tail _ (.tail _ (.tail _ (.tail _ (.tail _ (.tail _ (.tail _ (.head _))))))))))
  have h10 := hh _ _ (.tail _ (.tail _ (.tail _ (.tail _ (.tail _ (.tail _ (.tail _ (.tail _ (.tail _ (.tail _ (.head _)))))))))))
  clear hh
  simp only [N.den, aAdd, aSub, aMul, aQuo, aRem, true_iff, Bool.false_eq_true, false_iff, bI_ne, ieq_iff, ilt_iff, Classical.not_not] at h0 h1 h2 h3 h4 h5 h6 h7 h8 h9 h10
  generalize hA0 : max 0 (min 18446744073709551615 (i 0)) = a at *
  generalize hB0 : max 0 (min 18446744073709551615 (i 1)) = b at *
  have ha : 0 ≤ a ∧ a ≤ 18446744073709551615 := by omega
  have hb : 0 ≤ b ∧ b ≤ 18446744073709551615 := by omega
  clear hA0 hB0
  obtain ⟨A, B, Q, R, P, e1, e2, e3, e4, e5, e6, e7, e8, e9, e10, e11, e12, e13, e14, e15, e16⟩ := sdiv_facts a b ha hb (by omega) (by omega)
  obtain ⟨q, r, PU, f1, f2, f3, f4, f5, f6, f7, f8⟩ := udiv_facts a b ha (by omega)
  simp only [w_u64, e1, e2, e3, e4, f1, f2] at h0 h1 h2 h3 h4 h5 h6 h7 h8 h9 h10
  omega
theorem exc_19 (i : Nat → Int) (hh : Holds i [((.eq (.conv .u64 (.ar .rem .i64 (.conv .i64 (.var 0 0 18446744073709551615)) (.conv .i64 (.var 1 0 18446744073709551615)))) (.var 0 0 18446744073709551615)), false), ((.lt (.ar .rem .u64 (.var 0 0 18446744073709551615) (.var 1 0 18446744073709551615)) (.var 1 0 18446744073709551615)), true), ((.lt (.var 0 0 18446744073709551615) (.lit 9223372036854775808)), true), ((.eq (.conv .u64 (.ar .rem .i64 (.conv .i64 (.var 0 0 18446744073709551615)) (.conv .i64 (.var 1 0 18446744073709551615)))) (.lit 0)), false), ((.eq (.var 1 0 18446744073709551615) (.lit 9223372036854775808)), true), ((.lt (.conv .u64 (.ar .rem .i64 (.conv .i64 (.var 0 0 18446744073709551615)) (.conv .i64 (.var 1 0 18446744073709551615)))) (.ar .sub .u64 (.lit 0) (.var 1 0 18446744073709551615))), false), ((.lt (.var 1 0 18446744073709551615) (.lit 9223372036854775808)), false), ((.lt (.conv .u64 (.ar .rem .i64 (.conv .i64 (.var 0 0 18446744073709551615)) (.conv .i64 (.var 1 0 18446744073709551615)))) (.lit 9223372036854775808)), true), ((.eq (.ar .add .u64 (.ar .mul .u64 (.ar .quo .u64 (.var 0 0 18446744073709551615) (.var 1 0 18446744073709551615)) (.var 1 0 18446744073709551615)) (.ar .rem .u64 (.var 0 0 18446744073709551615) (.var 1 0 18446744073709551615))) (.var 0 0 18446744073709551615)), true), ((.eq (.ar .add .u64 (.ar .mul .u64 (.conv .u64 (.ar .quo .i64 (.conv .i64 (.var 0 0 18446744073709551615)) (.conv .i64 (.var 1 0 18446744073709551615)))) (.var 1 0 18446744073709551615)) (.conv .u64 (.ar .rem .i64 (.conv .i64 (.var 0 0 18446744073709551615)) (.conv .i64 (.var 1 0 18446744073709551615))))) (.var 0 0 18446744073709551615)), true), ((.eq (.var 1 0 18446744073709551615) (.lit 18446744073709551615)), false), ((.eq (.var 1 0 18446744073709551615) (.lit 0)), false)]) : False := by
  have h0 := hh _ _ (.head _)
  have h1 := hh _ _ (.tail _ (.head _))
  have h2 := hh _ _ (.tail _ (.tail _ (.head _)))
  have h3 := hh _ _ (.tail _ (.tail _ (.tail _ (.head _))))
  have h4 := hh _ _ (.tail _ (.tail _ (.tail _ (.tail _ (.head _)))))
  have h5 := hh _ _ (.tail _ (.tail _ (.tail _ (.tail _ (.tail _ (.head _))))))
  have h6 := hh _ _ (.tail _ (.tail _ (.tail _ (.tail _ (.tail _ (.tail _ (.head _)))))))
  have h7 := hh _ _ (.tail _ (.tail _ (.tail _ (.tail _ (.tail _ (.tail _ (.tail _ (.head _))))))))
  have h8 := hh _ _ (.tail _ (.tail _ (.tail _ (.tail _ (.tail _ (.tail _ (.tail _ (.tail _ (.head _)))))))))
  have h9 := hh _ _ (.tail _ (.tail _ (.tail _ (.tail _ (.tail _ (.tail _ (.tail _ (.tail _ (.tail _ (.head _))))))))))
  have h10 := hh _ _ (.tail _ (.tail _ (.tail _ (.tail _ (.tail _ (.tail _ (.tail _ (.tail _ (.tail _ (.tail _ (.head _)))))))))))
  have h11 := hh _ _ (.tail _ (.tail _ (.tail _ (.tail _ (.tail _ (.tail _ (.tail _ (.tail _ (.tail _ (.tail _ (.tail _ (.head _))))))))))))
  clear hh
  simp only [N.den, aAdd, aSub, aMul, aQuo, aRem, true_iff, Bool.false_eq_true, false_iff, bI_ne, ieq_iff, ilt_iff, Classical.not_not] at h0 h1 h2 h3 h4 h5 h6 h7 h8 h9 h10 h11
  generalize hA0 : max 0 (min 18446744073709551615 (i 0)) = a at *
  generalize hB0 : max 0 (min 18446744073709551615 (i 1)) = b at *
  have ha : 0 ≤ a ∧ a ≤ 18446744073709551615 := by omega
  have hb : 0 ≤ b ∧ b ≤ 18446744073709551615 := by omega
  clear hA0 hB0
  obtain ⟨A, B, Q, R, P, e1, e2, e3, e4, e5, e6, e7, e8, e9, e10, e11, e12, e13, e14, e15, e16⟩ := sdiv_facts a b ha hb (by omega) (by omega)
  obtain ⟨q, r, PU, f1, f2, f3, f4, f5, f6, f7, f8⟩ := udiv_facts a b ha (by omega)
  simp only [w_u64, e1, e2, e3, e4, f1, f2] at h0 h1 h2 h3 h4 h5 h6 h7 h8 h9 h10 h11
  omega
theorem exc_20 (i : Nat → Int) (hh : Holds i [((.lt (.ar .rem .u64 (.var 0 0 18446744073709551615) (.var 1 0 18446744073709551615)) (.var 1 0 18446744073709551615)), false), ((.eq (.conv .u64 (.ar .rem .i64 (.conv .i64 (.var 0 0 18446744073709551615)) (.conv .i64 (.var 1 0 18446744073709551615)))) (.lit 0)), true), ((.lt (.conv .u64 (.ar .rem .i64 (.conv .i64 (.var 0 0 18446744073709551615)) (.conv .i64 (.var 1 0 18446744073709551615)))) (.ar .sub .u64 (.lit 0) (.var 1 0 18446744073709551615))), true), ((.lt (.var 1 0 18446744073709551615) (.lit 9223372036854775808)), false), ((.lt (.conv .u64 (.ar .rem .i64 (.conv .i64 (.var 0 0 18446744073709551615)) (.conv .i64 (.var 1 0 18446744073709551615)))) (.lit 9223372036854775808)), true), ((.eq (.ar .add .u64 (.ar .mul .u64 (.ar .quo .u64 (.var 0 0 18446744073709551615) (.var 1 0 18446744073709551615)) (.var 1 0 18446744073709551615)) (.ar .rem .u64 (.var 0 0 18446744073709551615) (.var 1 0 18446744073709551615))) (.var 0 0 18446744073709551615)), true), ((.eq (.ar .add .u64 (.ar .mul .u64 (.conv .u64 (.ar .quo .i64 (.conv .i64 (.var 0 0 18446744073709551615)) (.conv .i64 (.var 1 0 18446744073709551615)))) (.var 1 0 18446744073709551615)) (.conv .u64 (.ar .rem .i64 (.conv .i64 (.var 0 0 18446744073709551615)) (.conv .i64 (.var 1 0 18446744073709551615))))) (.var 0 0 18446744073709551615)), true), ((.eq (.var 1 0 18446744073709551615) (.lit 18446744073709551615)), false), ((.eq (.var 1 0 18446744073709551615) (.lit 0)), false)]) : False := by
  have h0 := hh _ _ (.head _)
  have h1 := hh _ _ (.tail _ (.head _))
  have h2 := hh _ _ (.tail _ (.tail _ (.head _)))
  have h3 := hh _ _ (.tail _ (.tail _ (.tail _ (.head _))))
  have h4 := hh _ _ (.tail _ (.tail _ (.tail _ (.tail _ (.head _)))))
  have h5 := hh _ _ (.tail _ (.tail _ (.tail _ (.tail _ (.tail _ (.head _))))))
  have h6 := hh _ _ (.tail _ (.tail _ (.tail _ (.tail _ (.tail _ (.tail _ (.head _)))))))
  have h7 := hh _ _ (.tail _ (.tail _ (.tail _ (.tail _ (.tail _ (.tail _ (.tail _ (.head _))))))))
  have h8 := hh _ _ (.tail _ (.tail _ (.tail _ (.tail _ (.tail _ (.tail _ (.tail _ (.tail _ (.head _)))))))))
  clear hh
  simp only [N.den, aAdd, aSub, aMul, aQuo, aRem, true_iff, Bool.false_eq_true, false_iff, bI_ne, ieq_iff, ilt_iff, Classical.not_not] at h0 h1 h2 h3 h4 h5 h6 h7 h8
  generalize hA0 : max 0 (min 18446744073709551615 (i 0)) = a at *
  generalize hB0 : max 0 (min 18446744073709551615 (i 1)) = b at *
  have ha : 0 ≤ a ∧ a ≤ 18446744073709551615 := by omega
  have hb : 0 ≤ b ∧ b ≤ 18446744073709551615 := by omega
  clear hA0 hB0
  obtain ⟨A, B, Q, R, P, e1, e2, e3, e4, e5, e6, e7, e8, e9, e10, e11, e12, e13, e14, e15, e16⟩ := sdiv_facts a b ha hb (by omega) (by omega)
  obtain ⟨q, r, PU, f1, f2, f3, f4, f5, f6, f7, f8⟩ := udiv_facts a b ha (by omega)
  simp only [w_u64, e1, e2, e3, e4, f1, f2] at h0 h1 h2 h3 h4 h5 h6 h7 h8
  omega
theorem exc_21 (i : Nat → Int) (hh : Holds i [((.eq (.conv .u64 (.ar .rem .i64 (.conv .i64 (.var 0 0 18446744073709551615)) (.conv .i64 (.var 1 0 18446744073709551615)))) (.var 0 0 18446744073709551615)), false), ((.eq (.var 0 0 18446744073709551615) (.lit 9223372036854775808)), false), ((.eq (.var 1 0 18446744073709551615) (.lit 9223372036854775808)), true), ((.lt (.ar .rem .u64 (.var 0 0 18446744073709551615) (.var 1 0 18446744073709551615)) (.var 1 0 18446744073709551615)), true), ((.eq (.conv .u64 (.ar .rem .i64 (.conv .i64 (.var 0 0 18446744073709551615)) (.conv .i64 (.var 1 0 18446744073709551615)))) (.lit 0)), true), ((.lt (.conv .u64 (.ar .rem .i64 (.conv .i64 (.var 0 0 18446744073709551615)) (.conv .i64 (.var 1 0 18446744073709551615)))) (.ar .sub .u64 (.lit 0) (.var 1 0 18446744073709551615))), true), ((.lt (.var 1 0 18446744073709551615) (.lit 9223372036854775808)), false), ((.lt (.conv .u64 (.ar .rem .i64 (.conv .i64 (.var 0 0 18446744073709551615)) (.conv .i64 (.var 1 0 18446744073709551615)))) (.lit 9223372036854775808)), true), ((.eq (.ar .add .u64 (.ar .mul .u64 (.ar .quo .u64 (.var 0 0 18446744073709551615) (.var 1 0 18446744073709551615)) (.var 1 0 18446744073709551615)) (.ar .rem .u64 (.var 0 0 18446744073709551615) (.var 1 0 18446744073709551615))) (.var 0 0 18446744073709551615)), true), ((.eq (.ar .add .u64 (.ar .mul .u64 (.conv .u64 (.ar .quo .i64 (.conv .i64 (.var 0 0 18446744073709551615)) (.conv .i64 (.var 1 0 18446744073709551615)))) (.var 1 0 18446744073709551615)) (.conv .u64 (.ar .rem .i64 (.conv .i64 (.var 0 0 18446744073709551615)) (.conv .i64 (.var 1 0 18446744073709551615))))) (.var 0 0 18446744073709551615)), true), ((.eq (.var 1 0 18446744073709551615) (.lit 18446744073709551615)), false), ((.eq (.var 1 0 18446744073709551615) (.lit 0)), false)]) : False := by
  have h0 := hh _ _ (.head _)
  have h1 := hh _ _ (.tail _ (.head _))
  have h2 := hh _ _ (.tail _ (.tail _ (.head _)))
  have h3 := hh _ _ (.tail _ (.tail _ (.tail _ (.head _))))
  have h4 := hh _ _ (.tail _ (.tail _ (.tail _ (.tail _ (.head _)))))
  have h5 := hh _ _ (.tail _ (.tail _ (.tail _ (.tail _ (.tail _ (.head _))))))
  have h6 := hh _ _ (.tail _ (.tail _ (.tail _ (.tail _ (.tail _ (.tail _ (.head _)))))))
  have h7 := hh _ _ (.tail _ (.tail _ (.tail _ (.tail _ (.tail _ (.tail _ (.tail _ (.head _))))))))
  have h8 := hh _ _ (.tail _ (.tail _ (.tail _ (.tail _ (.tail _ (.tail _ (.tail _ (.tail _ (.head _)))))))))
  have h9 := hh _ _ (.tail _ (.tail _ (.tail _ (.tail _ (.tail _ (.tail _ (.tail _ (.tail _ (.tail _ (.head _))))))))))
  have h10 := hh _ _ (.tail _ (.tail _ (.tail _ (.tail _ (.tail _ (.tail _ (.tail _ (.tail _ (.tail _ (.tail _ (.head _)))))))))))
  have h11 := hh _ _ (.tail _ (.tail _ (.tail _ (.tail _ (.tail _ (.tail _ (.tail _ (.tail _ (.tail _ (.tail _ (.tail _ (.head _))))))))))))
  clear hh
  simp only [N.den, aAdd, aSub, aMul, aQuo, aRem, true_iff, Bool.false_eq_true, false_iff, bI_ne, ieq_iff, ilt_iff, Classical.not_not] at h0 h1 h2 h3 h4 h5 h6 h7 h8 h9 h10 h11
  generalize hA0 : max 0 (min 18446744073709551615 (i 0)) = a at *
  generalize hB0 : max 0 (min 18446744073709551615 (i 1)) = b at *
  have ha : 0 ≤ a ∧ a ≤ 18446744073709551615 := by omega
  have hb : 0 ≤ b ∧ b ≤ 18446744073709551615 := by omega
  clear hA0 hB0
  obtain ⟨A, B, Q, R, P, e1, e2, e3, e4, e5, e6, e7, e8, e9, e10, e11, e12, e13, e14, e15, e16⟩ := sdiv_facts a b ha hb (by omega) (by omega)
  obtain ⟨q, r, PU, f1, f2, f3, f4, f5, f6, f7, f8⟩ := udiv_facts a b ha (by omega)
  simp only [w_u64, e1, e2, e3, e4, f1, f2] at h0 h1 h2 h3 h4 h5 h6 h7 h8 h9 h10 h11
  omega
theorem exc_22 (i : Nat → Int) (hh : Holds i [((.lt (.var 0 0 18446744073709551615) (.lit 9223372036854775808)), false), ((.eq (.conv .u64 (.ar .rem .i64 (.conv .i64 (.var 0 0 18446744073709551615)) (.conv .i64 (.var 1 0 18446744073709551615)))) (.lit 0)), false), ((.lt (.conv .u64 (.ar .rem .i64 (.conv .i64 (.var 0 0 18446744073709551615)) (.conv .i64 (.var 1 0 18446744073709551615)))) (.ar .sub .u64 (.lit 0) (.var 1 0 18446744073709551615))), true), ((.lt (.var 1 0 18446744073709551615) (.lit 9223372036854775808)), false), ((.lt (.conv .u64 (.ar .rem .i64 (.conv .i64 (.var 0 0 18446744073709551615)) (.conv .i64 (.var 1 0 18446744073709551615)))) (.lit 9223372036854775808)), true), ((.eq (.ar .add .u64 (.ar .mul .u64 (.ar .quo .u64 (.var 0 0 18446744073709551615) (.var 1 0 18446744073709551615)) (.var 1 0 18446744073709551615)) (.ar .rem .u64 (.var 0 0 18446744073709551615) (.var 1 0 18446744073709551615))) (.var 0 0 18446744073709551615)), true), ((.eq (.ar .add .u64 (.ar .mul .u64 (.conv .u64 (.ar .quo .i64 (.conv .i64 (.var 0 0 18446744073709551615)) (.conv .i64 (.var 1 0 18446744073709551615)))) (.var 1 0 18446744073709551615)) (.conv .u64 (.ar .rem .i64 (.conv .i64 (.var 0 0 18446744073709551615)) (.conv .i64 (.var 1 0 18446744073709551615))))) (.var 0 0 18446744073709551615)), true), ((.eq (.var 1 0 18446744073709551615) (.lit 18446744073709551615)), false), ((.eq (.var 1 0 18446744073709551615) (.lit 0)), false)]) : False := by
  have h0 := hh _ _ (.head _)
  have h1 := hh _ _ (.tail _ (.head _))
  have h2 := hh _ _ (.tail _ (.tail _ (.head _)))
  have h3 := hh _ _ (.tail _ (.tail _ (.tail _ (.head _))))
  have h4 := hh _ _ (.tail _ (.tail _ (.tail _ (.tail _ (.head _)))))
  have h5 := hh _ _ (.tail _ (.tail _ (.tail _ (.tail _ (.tail _ (.head _))))))
  have h6 := hh _ _ (.tail _ (.tail _ (.tail _ (.tail _ (.tail _ (.tail _ (.head _)))))))
  have h7 := hh _ _ (.tail _ (.tail _ (.tail _ (.tail _ (.tail _ (.tail _ (.tail _ (.head _))))))))
  have h8 := hh _ _ (.tail _ (.tail _ (.tail _ (.tail _ (.tail _ (.tail _ (.tail _ (.tail _ (.head _)))))))))
  clear hh
  simp only [N.den, aAdd, aSub, aMul, aQuo, aRem, true_iff, Bool.false_eq_true, false_iff, bI_ne, ieq_iff, ilt_iff, Classical.not_not] at h0 h1 h2 h3 h4 h5 h6 h7 h8
  generalize hA0 : max 0 (min 18446744073709551615 (i 0)) = a at *
  generalize hB0 : max 0 (min 18446744073709551615 (i 1)) = b at *
  have ha : 0 ≤ a ∧ a ≤ 18446744073709551615 := by omega
  have hb : 0 ≤ b ∧ b ≤ 18446744073709551615 := by omega
  clear hA0 hB0
  obtain ⟨A, B, Q, R, P, e1, e2, e3, e4, e5, e6, e7, e8, e9, e10, e11, e12, e13, e14, e15, e16⟩ := sdiv_facts a b ha hb (by omega) (by omega)
  obtain ⟨q, r, PU, f1, f2, f3, f4, f5, f6, f7, f8⟩ := udiv_facts a b ha (by omega)
  simp only [w_u64, e1, e2, e3, e4, f1, f2] at h0 h1 h2 h3 h4 h5 h6 h7 h8
  omega
theorem exc_23 (i : Nat → Int) (hh : Holds i [((.lt (.ar .rem .u64 (.var 0 0 18446744073709551615) (.var 1 0 18446744073709551615)) (.var 1 0 18446744073709551615)), false), ((.lt (.var 0 0 18446744073709551615) (.lit 9223372036854775808)), true), ((.eq (.conv .u64 (.ar .rem .i64 (.conv .i64 (.var 0 0 18446744073709551615)) (.conv .i64 (.var 1 0 18446744073709551615)))) (.lit 0)), false), ((.lt (.conv .u64 (.ar .rem .i64 (.conv .i64 (.var 0 0 18446744073709551615)) (.conv .i64 (.var 1 0 18446744073709551615)))) (.ar .sub .u64 (.lit 0) (.var 1 0 18446744073709551615))), true), ((.lt (.var 1 0 18446744073709551615) (.lit 9223372036854775808)), false), ((.lt (.conv .u64 (.ar .rem .i64 (.conv .i64 (.var 0 0 18446744073709551615)) (.conv .i64 (.var 1 0 18446744073709551615)))) (.lit 9223372036854775808)), true), ((.eq (.ar .add .u64 (.ar .mul .u64 (.ar .quo .u64 (.var 0 0 18446744073709551615) (.var 1 0 18446744073709551615)) (.var 1 0 18446744073709551615)) (.ar .rem .u64 (.var 0 0 18446744073709551615) (.var 1 0 18446744073709551615))) (.var 0 0 18446744073709551615)), true), ((.eq (.ar .add .u64 (.ar .mul .u64 (.conv .u64 (.ar .quo .i64 (.conv .i64 (.var 0 0 18446744073709551615)) (.conv .i64 (.var 1 0 18446744073709551615)))) (.var 1 0 18446744073709551615)) (.conv .u64 (.ar .rem .i64 (.conv .i64 (.var 0 0 18446744073709551615)) (.conv .i64 (.var 1 0 18446744073709551615))))) (.var 0 0 18446744073709551615)), true), ((.eq (.var 1 0 18446744073709551615) (.lit 18446744073709551615)), false), ((.eq (.var 1 0 18446744073709551615) (.lit 0)), false)]) : False := by
  have h0 := hh _ _ (.head _)
  have h1 := hh _ _ (.tail _ (.head _))
  have h2 := hh _ _ (.tail _ (.tail _ (.head _)))
  have h3 := hh _ _ (.tail _ (.tail _ (.tail _ (.head _))))
  have h4 := hh _ _ (.tail _ (.tail _ (.tail _ (.tail _ (.head _)))))
  have h5 := hh _ _ (.tail _ (.tail _ (.tail _ (.tail _ (.tail _ (.head _))))))
  have h6 := hh _ _ (.tail _ (.tail _ (.tail _ (.tail _ (.tail _ (.tail _ (.head _)))))))
  have h7 := hh _ _ (.tail _ (.tail _ (.tail _ (.tail _ (.tail _ (.tail _ (.tail _ (.head _))))))))
  have h8 := hh _ _ (.tail _ (.tail _ (.tail _ (.tail _ (.tail _ (.tail _ (.tail _ (.tail _ (.head _)))))))))
  have h9 := hh _ _ (.tail _ (.tail _ (.tail _ (.tail _ (.tail _ (.tail _ (.tail _ (.tail _ (.tail _ (.head _))))))))))
  clear hh
  simp only [N.den, aAdd, aSub, aMul, aQuo, aRem, true_iff, Bool.false_eq_true, false_iff, bI_ne, ieq_iff, ilt_iff, Classical.not_not] at h0 h1 h2 h3 h4 h5 h6 h7 h8 h9
  generalize hA0 : max 0 (min 18446744073709551615 (i 0)) = a at *
  generalize hB0 : max 0 (min 18446744073709551615 (i 1)) = b at *
  have ha : 0 ≤ a ∧ a ≤ 18446744073709551615 := by omega
  have hb : 0 ≤ b ∧ b ≤ 18446744073709551615 := by omega
  clear hA0 hB0
  obtain ⟨A, B, Q, R, P, e1, e2, e3, e4, e5, e6, e7, e8, e9, e10, e11, e12, e13, e14, e15, e16⟩ := sdiv_facts a b ha hb (by omega) (by omega)
  obtain ⟨q, r, PU, f1, f2, f3, f4, f5, f6, f7, f8⟩ := udiv_facts a b ha (by omega)
  simp only [w_u64, e1, e2, e3, e4, f1, f2] at h0 h1 h2 h3 h4 h5 h6 h7 h8 h9
  omega
theorem exc_24 (i : Nat → Int) (hh : Holds i [((.eq (.conv .u64 (.ar .rem .i64 (.conv .i64 (.var 0 0 18446744073709551615)) (.conv .i64 (.var 1 0 18446744073709551615)))) (.var 0 0 18446744073709551615)), false), ((.eq (.var 1 0 18446744073709551615) (.lit 9223372036854775808)), true), ((.lt (.ar .rem .u64 (.var 0 0 18446744073709551615) (.var 1 0 18446744073709551615)) (.var 1 0 18446744073709551615)), true), ((.lt (.var 0 0 18446744073709551615) (.lit 9223372036854775808)), true), ((.eq (.conv .u64 (.ar .rem .i64 (.conv .i64 (.var 0 0 18446744073709551615)) (.conv .i64 (.var 1 0 18446744073709551615)))) (.lit 0)), false), ((.lt (.conv .u64 (.ar .rem .i64 (.conv .i64 (.var 0 0 18446744073709551615)) (.conv .i64 (.var 1 0 18446744073709551615)))) (.ar .sub .u64 (.lit 0) (.var 1 0 18446744073709551615))), true), ((.lt (.var 1 0 18446744073709551615) (.lit 9223372036854775808)), false), ((.lt (.conv .u64 (.ar .rem .i64 (.conv .i64 (.var 0 0 18446744073709551615)) (.conv .i64 (.var 1 0 18446744073709551615)))) (.lit 9223372036854775808)), true), ((.eq (.ar .add .u64 (.ar .mul .u64 (.ar .quo .u64 (.var 0 0 18446744073709551615) (.var 1 0 18446744073709551615)) (.var 1 0 18446744073709551615)) (.ar .rem .u64 (.var 0 0 18446744073709551615) (.var 1 0 18446744073709551615))) (.var 0 0 18446744073709551615)), true), ((.eq (.ar .add .u64 (.ar .mul .u64 (.conv .u64 (.ar .quo .i64 (.conv .i64 (.var 0 0 18446744073709551615)) (.conv .i64 (.var 1 0 18446744073709551615)))) (.var 1 0 18446744073709551615)) (.conv .u64 (.ar .rem .i64 (.conv .i64 (.var 0 0 18446744073709551615)) (.conv .i64 (.var 1 0 18446744073709551615))))) (.var 0 0 18446744073709551615)), true), ((.eq (.var 1 0 18446744073709551615) (.lit 18446744073709551615)), false), ((.eq (.var 1 0 18446744073709551615) (.lit 0)), false)]) : False := by
  have h0 := hh _ _ (.head _)
  have h1 := hh _ _ (.tail _ (.head _))
  have h2 := hh _ _ (.tail _ (.tail _ (.head _)))
  have h3 := hh _ _ (.tail _ (.tail _ (.tail _ (.head _))))
  have h4 := hh _ _ (.tail _ (.tail _ (.tail _ (.tail _ (.head _)))))
  have h5 := hh _ _ (.tail _ (.tail _ (.tail _ (.tail _ (.tail _ (.head _))))))
  have h6 := hh _ _ (.tail _ (.tail _ (.tail _ (.tail _ (.tail _ (.tail _ (.head _)))))))
  have h7 := hh _ _ (.tail _ (.tail _ (.tail _ (.tail _ (.tail _ (.tail _ (.tail _ (.head _))))))))
  have h8 := hh _ _ (.tail _ (.tail _ (.tail _ (.tail _ (.tail _ (.tail _ (.tail _ (.tail _ (.head _)))))))))
  have h9 := hh _ _ (.tail _ (.tail _ (.tail _ (.tail _ (.tail _ (.tail _ (.tail _ (.tail _ (.tail _ (.head _))))))))))
  have h10 := hh _ _ (.tail _ (.tail _ (.tail _ (.tail _ (.tail _ (.tail _ (.tail _ (.tail _ (.tail _ (.tail _ (.head _)))))))))))
  have h11 := hh _ _ (.tail _ (.tail _ (.tail _ (.tail _ (.tail _ (.tail _ (.tail _ (.tail _ (.tail _ (.tail _ (.tail _ (.head _))))))))))))
  clear hh
  simp only [N.den, aAdd, aSub, aMul, aQuo, aRem, true_iff, Bool.false_eq_true, false_iff, bI_ne, ieq_iff, ilt_iff, Classical.not_not] at h0 h1 h2 h3 h4 h5 h6 h7 h8 h9 h10 h11
  generalize hA0 : max 0 (min 18446744073709551615 (i 0)) = a at *
  generalize hB0 : max 0 (min 18446744073709551615 (i 1)) = b at *
  have ha : 0 ≤ a ∧ a ≤ 18446744073709551615 := by omega
  have hb : 0 ≤ b ∧ b ≤ 18446744073709551615 := by omega
  clear hA0 hB0
  obtain ⟨A, B, Q, R, P, e1, e2, e3, e4, e5, e6, e7, e8, e9, e10, e11, e12, e13, e14, e15, e16⟩ := sdiv_facts a b ha hb (by omega) (by omega)
  obtain ⟨q, r, PU, f1, f2, f3, f4, f5, f6, f7, f8⟩ := udiv_facts a b ha (by omega)
  simp only [w_u64, e1, e2, e3, e4, f1, f2] at h0 h1 h2 h3 h4 h5 h6 h7 h8 h9 h10 h11
  omega
theorem exc_25 (i : Nat → Int) (hh : Holds i [((.lt (.conv .u64 (.ar .rem .i64 (.conv .i64 (.var 0 0 18446744073709551615)) (.conv .i64 (.var 1 0 18446744073709551615)))) (.var 1 0 18446744073709551615)), false), ((.lt (.var 1 0 18446744073709551615) (.lit 9223372036854775808)), true), ((.lt (.conv .u64 (.ar .rem .i64 (.conv .i64 (.var 0 0 18446744073709551615)) (.conv .i64 (.var 1 0 18446744073709551615)))) (.lit 9223372036854775808)), true), ((.eq (.ar .add .u64 (.ar .mul .u64 (.ar .quo .u64 (.var 0 0 18446744073709551615) (.var 1 0 18446744073709551615)) (.var 1 0 18446744073709551615)) (.ar .rem .u64 (.var 0 0 18446744073709551615) (.var 1 0 18446744073709551615))) (.var 0 0 18446744073709551615)), true), ((.eq (.ar .add .u64 (.ar .mul .u64 (.conv .u64 (.ar .quo .i64 (.conv .i64 (.var 0 0 18446744073709551615)) (.conv .i64 (.var 1 0 18446744073709551615)))) (.var 1 0 18446744073709551615)) (.conv .u64 (.ar .rem .i64 (.conv .i64 (.var 0 0 18446744073709551615)) (.conv .i64 (.var 1 0 18446744073709551615))))) (.var 0 0 18446744073709551615)), true), ((.eq (.var 1 0 18446744073709551615) (.lit 18446744073709551615)), false), ((.eq (.var 1 0 18446744073709551615) (.lit 0)), false)]) : False := by
  have h0 := hh _ _ (.head _)
  have h1 := hh _ _ (.tail _ (.head _))
  have h2 := hh _ _ (.tail _ (.tail _ (.head _)))
  have h3 := hh _ _ (.tail _ (.tail _ (.tail _ (.head _))))
  have h4 := hh _ _ (.tail _ (.tail _ (.tail _ (.tail _ (.head _)))))
  have h5 := hh _ _ (.tail _ (.tail _ (.tail _ (.tail _ (.tail _ (.head _))))))
  have h6 := hh _ _ (.tail _ (.tail _ (.tail _ (.tail _ (.tail _ (.tail _ (.head _)))))))
  clear hh
  simp only [N.den, aAdd, aSub, aMul, aQuo, aRem, true_iff, Bool.false_eq_true, false_iff, bI_ne, ieq_iff, ilt_iff, Classical.not_not] at h0 h1 h2 h3 h4 h5 h6
  generalize hA0 : max 0 (min 18446744073709551615 (i 0)) = a at *
  generalize hB0 : max 0 (min 18446744073709551615 (i 1)) = b at *
  have ha : 0 ≤ a ∧ a ≤ 18446744073709551615 := by omega
  have hb : 0 ≤ b ∧ b ≤ 18446744073709551615 := by omega
  clear hA0 hB0
  obtain ⟨A, B, Q, R, P, e1, e2, e3, e4, e5, e6, e7, e8, e9, e10, e11, e12, e13, e14, e15, e16⟩ := sdiv_facts a b ha hb (by omega) (by omega)
  obtain ⟨q, r, PU, f1, f2, f3, f4, f5, f6, f7, f8⟩ := udiv_facts a b ha (by omega)
  simp only [w_u64, e1, e2, e3, e4, f1, f2] at h0 h1 h2 h3 h4 h5 h6
  omega
theorem exc_26 (i : Nat → Int) (hh : Holds i [((.lt (.ar .rem .u64 (.var 0 0 18446744073709551615) (.var 1 0 18446744073709551615)) (.var 1 0 18446744073709551615)), false), ((.eq (.conv .u64 (.ar .rem .i64 (.conv .i64 (.var 0 0 18446744073709551615)) (.conv .i64 (.var 1 0 18446744073709551615)))) (.lit 0)), true), ((.lt (.conv .u64 (.ar .rem .i64 (.conv .i64 (.var 0 0 18446744073709551615)) (.conv .i64 (.var 1 0 18446744073709551615)))) (.var 1 0 18446744073709551615)), true), ((.lt (.var 1 0 18446744073709551615) (.lit 9223372036854775808)), true), ((.lt (.conv .u64 (.ar .rem .i64 (.conv .i64 (.var 0 0 18446744073709551615)) (.conv .i64 (.var 1 0 18446744073709551615)))) (.lit 9223372036854775808)), true), ((.eq (.ar .add .u64 (.ar .mul .u64 (.ar .quo .u64 (.var 0 0 18446744073709551615) (.var 1 0 18446744073709551615)) (.var 1 0 18446744073709551615)) (.ar .rem .u64 (.var 0 0 18446744073709551615) (.var 1 0 18446744073709551615))) (.var 0 0 18446744073709551615)), true), ((.eq (.ar .add .u64 (.ar .mul .u64 (.conv .u64 (.ar .quo .i64 (.conv .i64 (.var 0 0 18446744073709551615)) (.conv .i64 (.var 1 0 18446744073709551615)))) (.var 1 0 18446744073709551615)) (.conv .u64 (.ar .rem .i64 (.conv .i64 (.var 0 0 18446744073709551615)) (.conv .i64 (.var 1 0 18446744073709551615))))) (.var 0 0 18446744073709551615)), true), ((.eq (.var 1 0 18446744073709551615) (.lit 18446744073709551615)), false), ((.eq (.var 1 0 18446744073709551615) (.lit 0)), false)]) : False := by
  have h0 := hh _ _ (.head _)
  have h1 := hh _ _ (.tail _ (.head _))
  have h2 := hh _ _ (.tail _ (.tail _ (.head _)))
  have h3 := hh _ _ (.tail _ (.tail _ (.tail _ (.head _))))
  have h4 := hh _ _ (.tail _ (.tail _ (.tail _ (.tail _ (.head _)))))
  have h5 := hh _ _ (.tail _ (.tail _ (.tail _ (.tail _ (.tail _ (.head _))))))
  have h6 := hh _ _ (.tail _ (.tail _ (.tail _ (.tail _ (.tail _ (.tail _ (.head _)))))))
  have h7 := hh _ _ (.tail _ (.tail _ (.tail _ (.tail _ (.tail _ (.tail _ (.tail _ (.head _))))))))
  have h8 := hh _ _ (.tail _ (.tail _ (.tail _ (.tail _ (.tail _ (.tail _ (.tail _ (.tail _ (.head _)))))))))
  clear hh
  simp only [N.den, aAdd, aSub, aMul, aQuo, aRem, true_iff, Bool.false_eq_true, false_iff, bI_ne, ieq_iff, ilt_iff, Classical.not_not] at h0 h1 h2 h3 h4 h5 h6 h7 h8
  generalize hA0 : max 0 (min 18446744073709551615 (i 0)) = a at *
  generalize hB0 : max 0 (min 18446744073709551615 (i 1)) = b at *
  have ha : 0 ≤ a ∧ a ≤ 18446744073709551615 := by omega
  have hb : 0 ≤ b ∧ b ≤ 18446744073709551615 := by omega
  clear hA0 hB0
  obtain ⟨A, B, Q, R, P, e1, e2, e3, e4, e5, e6, e7, e8, e9, e10, e11, e12, e13, e14, e15, e16⟩ := sdiv_facts a b ha hb (by omega) (by omega)
  obtain ⟨q, r, PU, f1, f2, f3, f4, f5, f6, f7, f8⟩ := udiv_facts a b ha (by omega)
  simp only [w_u64, e1, e2, e3, e4, f1, f2] at h0 h1 h2 h3 h4 h5 h6 h7 h8
  omega
theorem exc_27 (i : Nat → Int) (hh : Holds i [((.lt (.var 0 0 18446744073709551615) (.lit 9223372036854775808)), false), ((.eq (.conv .u64 (.ar .rem .i64 (.conv .i64 (.var 0 0 18446744073709551615)) (.conv .i64 (.var 1 0 18446744073709551615)))) (.lit 0)), false), ((.lt (.conv .u64 (.ar .rem .i64 (.conv .i64 (.var 0 0 18446744073709551615)) (.conv .i64 (.var 1 0 18446744073709551615)))) (.var 1 0 18446744073709551615)), true), ((.lt (.var 1 0 18446744073709551615) (.lit 9223372036854775808)), true), ((.lt (.conv .u64 (.ar .rem .i64 (.conv .i64 (.var 0 0 18446744073709551615)) (.conv .i64 (.var 1 0 18446744073709551615)))) (.lit 9223372036854775808)), true), ((.eq (.ar .add .u64 (.ar .mul .u64 (.ar .quo .u64 (.var 0 0 18446744073709551615) (.var 1 0 18446744073709551615)) (.var 1 0 18446744073709551615)) (.ar .rem .u64 (.var 0 0 18446744073709551615) (.var 1 0 18446744073709551615))) (.var 0 0 18446744073709551615)), true), ((.eq (.ar .add .u64 (.ar .mul .u64 (.conv .u64 (.ar .quo .i64 (.conv .i64 (.var 0 0 18446744073709551615)) (.conv .i64 (.var 1 0 18446744073709551615)))) (.var 1 0 18446744073709551615)) (.conv .u64 (.ar .rem .i64 (.conv .i64 (.var 0 0 18446744073709551615)) (.conv .i64 (.var 1 0 18446744073709551615))))) (.var 0 0 18446744073709551615)), true), ((.eq (.var 1 0 18446744073709551615) (.lit 18446744073709551615)), false), ((.eq (.var 1 0 18446744073709551615) (.lit 0)), false)]) : False := by
  have h0 := hh _ _ (.head _)
  have h1 := hh _ _ (.tail _ (.head _))
  have h2 := hh _ _ (.tail _ (.tail _ (.head _)))
  have h3 := hh _ _ (.tail _ (.tail _ (.tail _ (.head _))))
  have h4 := hh _ _ (.tail _ (.tail _ (.tail _ (.tail _ (.head _)))))
  have h5 := hh _ _ (.tail _ (.tail _ (.tail _ (.tail _ (.tail _ (.head _))))))
  have h6 := hh _ _ (.tail _ (.tail _ (.tail _ (.tail _ (.tail _ (.tail _ (.head _)))))))
  have h7 := hh _ _ (.tail _ (.tail _ (.tail _ (.tail _ (.tail _ (.tail _ (.tail _ (.head _))))))))
  have h8 := hh _ _ (.tail _ (.tail _ (.tail _ (.tail _ (.tail _ (.tail _ (.tail _ (.tail _ (.head _)))))))))
  clear hh
  simp only [N.den, aAdd, aSub, aMul, aQuo, aRem, true_iff, Bool.false_eq_true, false_iff, bI_ne, ieq_iff, ilt_iff, Classical.not_not] at h0 h1 h2 h3 h4 h5 h6 h7 h8
  generalize hA0 : max 0 (min 18446744073709551615 (i 0)) = a at *
  generalize hB0 : max 0 (min 18446744073709551615 (i 1)) = b at *
  have ha : 0 ≤ a ∧ a ≤ 18446744073709551615 := by omega
  have hb : 0 ≤ b ∧ b ≤ 18446744073709551615 := by omega
  clear hA0 hB0
  obtain ⟨A, B, Q, R, P, e1, e2, e3, e4, e5, e6, e7, e8, e9, e10, e11, e12, e13, e14, e15, e16⟩ := sdiv_facts a b ha hb (by omega) (by omega)
  obtain ⟨q, r, PU, f1, f2, f3, f4, f5, f6, f7, f8⟩ := udiv_facts a b ha (by omega)
  simp only [w_u64, e1, e2, e3, e4, f1, f2] at h0 h1 h2 h3 h4 h5 h6 h7 h8
  omega
theorem exc_28 (i : Nat → Int) (hh : Holds i [((.lt (.ar .rem .u64 (.var 0 0 18446744073709551615) (.var 1 0 18446744073709551615)) (.var 1 0 18446744073709551615)), false), ((.lt (.var 0 0 18446744073709551615) (.lit 9223372036854775808)), true), ((.eq (.conv .u64 (.ar .rem .i64 (.conv .i64 (.var 0 0 18446744073709551615)) (.conv .i64 (.var 1 0 18446744073709551615)))) (.lit 0)), false), ((.lt (.conv .u64 (.ar .rem .i64 (.conv .i64 (.var 0 0 18446744073709551615)) (.conv .i64 (.var 1 0 18446744073709551615)))) (.var 1 0 18446744073709551615)), true), ((.lt (.var 1 0 18446744073709551615) (.lit 9223372036854775808)), true), ((.lt (.conv .u64 (.ar .rem .i64 (.conv .i64 (.var 0 0 18446744073709551615)) (.conv .i64 (.var 1 0 18446744073709551615)))) (.lit 9223372036854775808)), true), ((.eq (.ar .add .u64 (.ar .mul .u64 (.ar .quo .u64 (.var 0 0 18446744073709551615) (.var 1 0 18446744073709551615)) (.var 1 0 18446744073709551615)) (.ar .rem .u64 (.var 0 0 18446744073709551615) (.var 1 0 18446744073709551615))) (.var 0 0 18446744073709551615)), true), ((.eq (.ar .add .u64 (.ar .mul .u64 (.conv .u64 (.ar .quo .i64 (.conv .i64 (.var 0 0 18446744073709551615)) (.conv .i64 (.var 1 0 18446744073709551615)))) (.var 1 0 18446744073709551615)) (.conv .u64 (.ar .rem .i64 (.conv .i64 (.var 0 0 18446744073709551615)) (.conv .i64 (.var 1 0 18446744073709551615))))) (.var 0 0 18446744073709551615)), true), ((.eq (.var 1 0 18446744073709551615) (.lit 18446744073709551615)), false), ((.eq (.var 1 0 18446744073709551615) (.lit 0)), false)]) : False := by
  have h0 := hh _ _ (.head _)
  have h1 := hh _ _ (.tail _ (.head _))
  have h2 := hh _ _ (.tail _ (.tail _ (.head _)))
  have h3 := hh _ _ (.tail _ (.tail _ (.tail _ (.head _))))
  have h4 := hh _ _ (.tail _ (.tail _ (.tail _ (.tail _ (.head _)))))
  have h5 := hh _ _ (.tail _ (.tail _ (.tail _ (.tail _ (.tail _ (.head _))))))
  have h6 := hh _ _ (.tail _ (.tail _ (.tail _ (.tail _ (.tail _ (.tail _ (.head _)))))))
  have h7 := hh _ _ (.tail _ (.tail _ (.tail _ (.tail _ (.tail _ (.tail _ (.tail _ (.head _))))))))
  have h8 := hh _ _ (.tail _ (.tail _ (.tail _ (.tail _ (.tail _ (.tail _ (.tail _ (.tail _ (.head _)))))))))
  have h9 := hh _ _ (.tail _ (.tail _ (.tail _ (.tail _ (.tail _ (.tail _ (.tail _ (.tail _ (.tail _ (.head _))))))))))
  clear hh
  simp only [N.den, aAdd, aSub, aMul, aQuo, aRem, true_iff, Bool.false_eq_true, false_iff, bI_ne, ieq_iff, ilt_iff, Classical.not_not] at h0 h1 h2 h3 h4 h5 h6 h7 h8 h9
  generalize hA0 : max 0 (min 18446744073709551615 (i 0)) = a at *
  generalize hB0 : max 0 (min 18446744073709551615 (i 1)) = b at *
  have ha : 0 ≤ a ∧ a ≤ 18446744073709551615 := by omega
  have hb : 0 ≤ b ∧ b ≤ 18446744073709551615 := by omega
  clear hA0 hB0
  obtain ⟨A, B, Q, R, P, e1, e2, e3, e4, e5, e6, e7, e8, e9, e10, e11, e12, e13, e14, e15, e16⟩ := sdiv_facts a b ha hb (by omega) (by omega)
  obtain ⟨q, r, PU, f1, f2, f3, f4, f5, f6, f7, f8⟩ := udiv_facts a b ha (by omega)
  simp only [w_u64, e1, e2, e3, e4, f1, f2] at h0 h1 h2 h3 h4 h5 h6 h7 h8 h9
  omega
theorem exc_29 (i : Nat → Int) (hh : Holds i [((.eq (.conv .u32 (.ar .mul .u64 (.ar .sub .u64 (.lit 0) (.var 0 0 18446744073709551615)) (.var 1 0 18446744073709551615))) (.conv .u32 (.var 0 0 18446744073709551615))), false), ((.eq (.conv .i32 (.var 1 0 18446744073709551615)) (.lit (-1))), true), ((.eq (.conv .i32 (.var 1 0 18446744073709551615)) (.lit 0)), false)]) : False := by
  have h0 := hh _ _ (.head _)
  have h1 := hh _ _ (.tail _ (.head _))
  have h2 := hh _ _ (.tail _ (.tail _ (.head _)))
  clear hh
  simp only [N.den, aAdd, aSub, aMul, aQuo, aRem, true_iff, Bool.false_eq_true, false_iff, bI_ne, ieq_iff, ilt_iff, Classical.not_not] at h0 h1 h2
  generalize hA0 : max 0 (min 18446744073709551615 (i 0)) = a at *
  generalize hB0 : max 0 (min 18446744073709551615 (i 1)) = b at *
  have ha : 0 ≤ a ∧ a ≤ 18446744073709551615 := by omega
  have hb : 0 ≤ b ∧ b ≤ 18446744073709551615 := by omega
  clear hA0 hB0
  have wa := w_i32 a
  have wb := w_i32 b
  simp only [w_u64, w_u32] at h0 h1 h2
  have k1 := mulmod2 (m := 18446744073709551616) (x := 0 - a) (b := b) (B := b) rfl
  have hm : ((0 - a) * b) % 4294967296 = ((0 - a) * -1) % 4294967296 := mulmod (by omega)
  omega
theorem exc_30 (i : Nat → Int) (hh : Holds i [((.lt (.lit 0) (.ar .sub .u64 (.lit 0) (.conv .u64 (.conv .i32 (.var 1 0 18446744073709551615))))), false), ((.lt (.conv .u64 (.conv .i32 (.var 1 0 18446744073709551615))) (.lit 9223372036854775808)), false), ((.eq (.conv .u32 (.ar .mul .u64 (.ar .sub .u64 (.lit 0) (.var 0 0 18446744073709551615)) (.var 1 0 18446744073709551615))) (.conv .u32 (.var 0 0 18446744073709551615))), true), ((.eq (.conv .i32 (.var 1 0 18446744073709551615)) (.lit (-1))), true), ((.eq (.conv .i32 (.var 1 0 18446744073709551615)) (.lit 0)), false)]) : False := by
  have h0 := hh _ _ (.head _)
  have h1 := hh _ _ (.tail _ (.head _))
  have h2 := hh _ _ (.tail _ (.tail _ (.head _)))
  have h3 := hh _ _ (.tail _ (.tail _ (.tail _ (.head _))))
  have h4 := hh _ _ (.tail _ (.tail _ (.tail _ (.tail _ (.head _)))))
  clear hh
  simp only [N.den, aAdd, aSub, aMul, aQuo, aRem, true_iff, Bool.false_eq_true, false_iff, bI_ne, ieq_iff, ilt_iff, Classical.not_not] at h0 h1 h2 h3 h4
  generalize hA0 : max 0 (min 18446744073709551615 (i 0)) = a at *
  generalize hB0 : max 0 (min 18446744073709551615 (i 1)) = b at *
  have ha : 0 ≤ a ∧ a ≤ 18446744073709551615 := by omega
  have hb : 0 ≤ b ∧ b ≤ 18446744073709551615 := by omega
  clear hA0 hB0
  have wa := w_i32 a
  have wb := w_i32 b
  simp only [w_u64, w_u32] at h0 h1 h2 h3 h4
  have k1 := mulmod2 (m := 18446744073709551616) (x := 0 - a) (b := b) (B := b) rfl
  have hm : ((0 - a) * b) % 4294967296 = ((0 - a) * -1) % 4294967296 := mulmod (by omega)
  omega
theorem exc_31 (i : Nat → Int) (hh : Holds i [((.lt (.lit 0) (.conv .u64 (.conv .i32 (.var 1 0 18446744073709551615)))), false), ((.lt (.conv .u64 (.conv .i32 (.var 1 0 18446744073709551615))) (.lit 9223372036854775808)), true), ((.eq (.conv .u32 (.ar .mul .u64 (.ar .sub .u64 (.lit 0) (.var 0 0 18446744073709551615)) (.var 1 0 18446744073709551615))) (.conv .u32 (.var 0 0 18446744073709551615))), true), ((.eq (.conv .i32 (.var 1 0 18446744073709551615)) (.lit (-1))), true), ((.eq (.conv .i32 (.var 1 0 18446744073709551615)) (.lit 0)), false)]) : False := by
  have h0 := hh _ _ (.head _)
  have h1 := hh _ _ (.tail _ (.head _))
  have h2 := hh _ _ (.tail _ (.tail _ (.head _)))
  have h3 := hh _ _ (.tail _ (.tail _ (.tail _ (.head _))))
  have h4 := hh _ _ (.tail _ (.tail _ (.tail _ (.tail _ (.head _)))))
  clear hh
  simp only [N.den, aAdd, aSub, aMul, aQuo, aRem, true_iff, Bool.false_eq_true, false_iff, bI_ne, ieq_iff, ilt_iff, Classical.not_not] at h0 h1 h2 h3 h4
  generalize hA0 : max 0 (min 18446744073709551615 (i 0)) = a at *
  generalize hB0 : max 0 (min 18446744073709551615 (i 1)) = b at *
  have ha : 0 ≤ a ∧ a ≤ 18446744073709551615 := by omega
  have hb : 0 ≤ b ∧ b ≤ 18446744073709551615 := by omega
  clear hA0 hB0
  have wa := w_i32 a
  have wb := w_i32 b
  simp only [w_u64, w_u32] at h0 h1 h2 h3 h4
  have k1 := mulmod2 (m := 18446744073709551616) (x := 0 - a) (b := b) (B := b) rfl
  have hm : ((0 - a) * b) % 4294967296 = ((0 - a) * -1) % 4294967296 := mulmod (by omega)
  omega
theorem exc_32 (i : Nat → Int) (hh : Holds i [((.eq (.conv .u32 (.ar .add .u64 (.ar .mul .u64 (.ar .quo .i64 (.conv .i32 (.var 0 0 18446744073709551615)) (.conv .i32 (.var 1 0 18446744073709551615))) (.var 1 0 18446744073709551615)) (.ar .rem .i64 (.conv .i32 (.var 0 0 18446744073709551615)) (.conv .i32 (.var 1 0 18446744073709551615))))) (.conv .u32 (.var 0 0 18446744073709551615))), false), ((.eq (.conv .i32 (.var 1 0 18446744073709551615)) (.lit (-1))), false), ((.eq (.conv .i32 (.var 1 0 18446744073709551615)) (.lit 0)), false)]) : False := by
  have h0 := hh _ _ (.head _)
  have h1 := hh _ _ (.tail _ (.head _))
  have h2 := hh _ _ (.tail _ (.tail _ (.head _)))
  clear hh
  simp only [N.den, aAdd, aSub, aMul, aQuo, aRem, true_iff, Bool.false_eq_true, false_iff, bI_ne, ieq_iff, ilt_iff, Classical.not_not] at h0 h1 h2
  generalize hA0 : max 0 (min 18446744073709551615 (i 0)) = a at *
  generalize hB0 : max 0 (min 18446744073709551615 (i 1)) = b at *
  have ha : 0 ≤ a ∧ a ≤ 18446744073709551615 := by omega
  have hb : 0 ≤ b ∧ b ≤ 18446744073709551615 := by omega
  clear hA0 hB0
  have n1 : wrapF .i32 b ≠ 0 := by omega
  have n2 : wrapF .i32 b ≠ -1 := by omega
  obtain ⟨A, B, Q, R, P, e1, e2, e3, e4, e5, e6, e7, e8, e9, e10, e11, e12, e13, e14, e15, e16⟩ := wdiv_facts a b n1 n2
  simp only [w_u64, w_u32, e1, e2, e3, e4, e5] at h0 h1 h2
  omega
theorem exc_33 (i : Nat → Int) (hh : Holds i [((.lt (.ar .sub .u64 (.lit 0) (.conv .u64 (.conv .i32 (.ar .rem .i64 (.conv .i32 (.var 0 0 18446744073709551615)) (.conv .i32 (.var 1 0 18446744073709551615)))))) (.ar .sub .u64 (.lit 0) (.conv .u64 (.conv .i32 (.var 1 0 18446744073709551615))))), false), ((.lt (.conv .u64 (.conv .i32 (.var 1 0 18446744073709551615))) (.lit 9223372036854775808)), false), ((.lt (.conv .u64 (.conv .i32 (.ar .rem .i64 (.conv .i32 (.var 0 0 18446744073709551615)) (.conv .i32 (.var 1 0 18446744073709551615))))) (.lit 9223372036854775808)), false), ((.eq (.conv .u32 (.ar .add .u64 (.ar .mul .u64 (.ar .quo .i64 (.conv .i32 (.var 0 0 18446744073709551615)) (.conv .i32 (.var 1 0 18446744073709551615))) (.var 1 0 18446744073709551615)) (.ar .rem .i64 (.conv .i32 (.var 0 0 18446744073709551615)) (.conv .i32 (.var 1 0 18446744073709551615))))) (.conv .u32 (.var 0 0 18446744073709551615))), true), ((.eq (.conv .i32 (.var 1 0 18446744073709551615)) (.lit (-1))), false), ((.eq (.conv .i32 (.var 1 0 18446744073709551615)) (.lit 0)), false)]) : False := by
  have h0 := hh _ _ (.head _)
  have h1 := hh _ _ (.tail _ (.head _))
  have h2 := hh _ _ (.tail _ (.tail _ (.head _)))
  have h3 := hh _ _ (.tail _ (.tail _ (.tail _ (.head _))))
  have h4 := hh _ _ (.tail _ (.tail _ (.tail _ (.tail _ (.head _)))))
  have h5 := hh _ _ (.tail _ (.tail _ (.tail _ (.tail _ (.tail _ (.head _))))))
  clear hh
  simp only [N.den, aAdd, aSub, aMul, aQuo, aRem, true_iff, Bool.false_eq_true, false_iff, bI_ne, ieq_iff, ilt_iff, Classical.not_not] at h0 h1 h2 h3 h4 h5
  generalize hA0 : max 0 (min 18446744073709551615 (i 0)) = a at *
  generalize hB0 : max 0 (min 18446744073709551615 (i 1)) = b at *
  have ha : 0 ≤ a ∧ a ≤ 18446744073709551615 := by omega
  have hb : 0 ≤ b ∧ b ≤ 18446744073709551615 := by omega
  clear hA0 hB0
  have n1 : wrapF .i32 b ≠ 0 := by omega
  have n2 : wrapF .i32 b ≠ -1 := by omega
  obtain ⟨A, B, Q, R, P, e1, e2, e3, e4, e5, e6, e7, e8, e9, e10, e11, e12, e13, e14, e15, e16⟩ := wdiv_facts a b n1 n2
  simp only [w_u64, w_u32, e1, e2, e3, e4, e5] at h0 h1 h2 h3 h4 h5
  omega
theorem exc_34 (i : Nat → Int) (hh : Holds i [((.lt (.conv .u64 (.conv .i32 (.var 0 0 18446744073709551615))) (.lit 9223372036854775808)), true), ((.eq (.conv .i32 (.ar .rem .i64 (.conv .i32 (.var 0 0 18446744073709551615)) (.conv .i32 (.var 1 0 18446744073709551615)))) (.lit 0)), false), ((.lt (.ar .sub .u64 (.lit 0) (.conv .u64 (.conv .i32 (.ar .rem .i64 (.conv .i32 (.var 0 0 18446744073709551615)) (.conv .i32 (.var 1 0 18446744073709551615)))))) (.ar .sub .u64 (.lit 0) (.conv .u64 (.conv .i32 (.var 1 0 18446744073709551615))))), true), ((.lt (.conv .u64 (.conv .i32 (.var 1 0 18446744073709551615))) (.lit 9223372036854775808)), false), ((.lt (.conv .u64 (.conv .i32 (.ar .rem .i64 (.conv .i32 (.var 0 0 18446744073709551615)) (.conv .i32 (.var 1 0 18446744073709551615))))) (.lit 9223372036854775808)), false), ((.eq (.conv .u32 (.ar .add .u64 (.ar .mul .u64 (.ar .quo .i64 (.conv .i32 (.var 0 0 18446744073709551615)) (.conv .i32 (.var 1 0 18446744073709551615))) (.var 1 0 18446744073709551615)) (.ar .rem .i64 (.conv .i32 (.var 0 0 18446744073709551615)) (.conv .i32 (.var 1 0 18446744073709551615))))) (.conv .u32 (.var 0 0 18446744073709551615))), true), ((.eq (.conv .i32 (.var 1 0 18446744073709551615)) (.lit (-1))), false), ((.eq (.conv .i32 (.var 1 0 18446744073709551615)) (.lit 0)), false)]) : False := by
  have h0 := hh _ _ (.head _)
  have h1 := hh _ _ (.tail _ (.head _))
  have h2 := hh _ _ (.tail _ (.tail _ (.head _)))
  have h3 := hh _ _ (.tail _ (.tail _ (.tail _ (.head _))))
  have h4 := hh _ _ (.tail _ (.tail _ (.tail _ (.tail _ (.head _)))))
  have h5 := hh _ _ (.tail _ (.tail _ (.tail _ (.tail _ (.tail _ (.head _))))))
  have h6 := hh _ _ (.tail _ (.tail _ (.tail _ (.tail _ (.tail _ (.tail _ (.head _)))))))
  have h7 := hh _ _ (.tail _ (.tail _ (.tail _ (.tail _ (.tail _ (.tail _ (.tail _ (.head _))))))))
  clear hh
  simp only [N.den, aAdd, aSub, aMul, aQuo, aRem, true_iff, Bool.false_eq_true, false_iff, bI_ne, ieq_iff, ilt_iff, Classical.not_not] at h0 h1 h2 h3 h4 h5 h6 h7
  generalize hA0 : max 0 (min 18446744073709551615 (i 0)) = a at *
  generalize hB0 : max 0 (min 18446744073709551615 (i 1)) = b at *
  have ha : 0 ≤ a ∧ a ≤ 18446744073709551615 := by omega
  have hb : 0 ≤ b ∧ b ≤ 18446744073709551615 := by omega
  clear hA0 hB0
  have n1 : wrapF .i32 b ≠ 0 := by omega
  have n2 : wrapF .i32 b ≠ -1 := by omega
  obtain ⟨A, B, Q, R, P, e1, e2, e3, e4, e5, e6, e7, e8, e9, e10, e11, e12, e13, e14, e15, e16⟩ := wdiv_facts a b n1 n2
  simp only [w_u64, w_u32, e1, e2, e3, e4, e5] at h0 h1 h2 h3 h4 h5 h6 h7
  omega
theorem exc_35 (i : Nat → Int) (hh : Holds i [((.lt (.ar .sub .u64 (.lit 0) (.conv .u64 (.conv .i32 (.ar .rem .i64 (.conv .i32 (.var 0 0 18446744073709551615)) (.conv .i32 (.var 1 0 18446744073709551615)))))) (.conv .u64 (.conv .i32 (.var 1 0 18446744073709551615)))), false), ((.lt (.conv .u64 (.conv .i32 (.var 1 0 18446744073709551615))) (.lit 9223372036854775808)), true), ((.lt (.conv .u64 (.conv .i32 (.ar .rem .i64 (.conv .i32 (.var 0 0 18446744073709551615)) (.conv .i32 (.var 1 0 18446744073709551615))))) (.lit 9223372036854775808)), false), ((.eq (.conv .u32 (.ar .add .u64 (.ar .mul .u64 (.ar .quo .i64 (.conv .i32 (.var 0 0 18446744073709551615)) (.conv .i32 (.var 1 0 18446744073709551615))) (.var 1 0 18446744073709551615)) (.ar .rem .i64 (.conv .i32 (.var 0 0 18446744073709551615)) (.conv .i32 (.var 1 0 18446744073709551615))))) (.conv .u32 (.var 0 0 18446744073709551615))), true), ((.eq (.conv .i32 (.var 1 0 18446744073709551615)) (.lit (-1))), false), ((.eq (.conv .i32 (.var 1 0 18446744073709551615)) (.lit 0)), false)]) : False := by
  have h0 := hh _ _ (.head _)
  have h1 := hh _ _ (.tail _ (.head _))
  have h2 := hh _ _ (.tail _ (.tail _ (.head _)))
  have h3 := hh _ _ (.tail _ (.tail _ (.tail _ (.head _))))
  have h4 := hh _ _ (.tail _ (.tail _ (.tail _ (.tail _ (.head _)))))
  have h5 := hh _ _ (.tail _ (.tail _ (.tail _ (.tail _ (.tail _ (.head _))))))
  clear hh
  simp only [N.den, aAdd, aSub, aMul, aQuo, aRem, true_iff, Bool.false_eq_true, false_iff, bI_ne, ieq_iff, ilt_iff, Classical.not_not] at h0 h1 h2 h3 h4 h5
  generalize hA0 : max 0 (min 18446744073709551615 (i 0)) = a at *
  generalize hB0 : max 0 (min 18446744073709551615 (i 1)) = b at *
  have ha : 0 ≤ a ∧ a ≤ 18446744073709551615 := by omega
  have hb : 0 ≤ b ∧ b ≤ 18446744073709551615 := by omega
  clear hA0 hB0
  have n1 : wrapF .i32 b ≠ 0 := by omega
  have n2 : wrapF .i32 b ≠ -1 := by omega
  obtain ⟨A, B, Q, R, P, e1, e2, e3, e4, e5, e6, e7, e8, e9, e10, e11, e12, e13, e14, e15, e16⟩ := wdiv_facts a b n1 n2
  simp only [w_u64, w_u32, e1, e2, e3, e4, e5] at h0 h1 h2 h3 h4 h5
  omega
theorem exc_36 (i : Nat → Int) (hh : Holds i [((.lt (.conv .u64 (.conv .i32 (.var 0 0 18446744073709551615))) (.lit 9223372036854775808)), true), ((.eq (.conv .i32 (.ar .rem .i64 (.conv .i32 (.var 0 0 18446744073709551615)) (.conv .i32 (.var 1 0 18446744073709551615)))) (.lit 0)), false), ((.lt (.ar .sub .u64 (.lit 0) (.conv .u64 (.conv .i32 (.ar .rem .i64 (.conv .i32 (.var 0 0 18446744073709551615)) (.conv .i32 (.var 1 0 18446744073709551615)))))) (.conv .u64 (.conv .i32 (.var 1 0 18446744073709551615)))), true), ((.lt (.conv .u64 (.conv .i32 (.var 1 0 18446744073709551615))) (.lit 9223372036854775808)), true), ((.lt (.conv .u64 (.conv .i32 (.ar .rem .i64 (.conv .i32 (.var 0 0 18446744073709551615)) (.conv .i32 (.var 1 0 18446744073709551615))))) (.lit 9223372036854775808)), false), ((.eq (.conv .u32 (.ar .add .u64 (.ar .mul .u64 (.ar .quo .i64 (.conv .i32 (.var 0 0 18446744073709551615)) (.conv .i32 (.var 1 0 18446744073709551615))) (.var 1 0 18446744073709551615)) (.ar .rem .i64 (.conv .i32 (.var 0 0 18446744073709551615)) (.conv .i32 (.var 1 0 18446744073709551615))))) (.conv .u32 (.var 0 0 18446744073709551615))), true), ((.eq (.conv .i32 (.var 1 0 18446744073709551615)) (.lit (-1))), false), ((.eq (.conv .i32 (.var 1 0 18446744073709551615)) (.lit 0)), false)]) : False := by
  have h0 := hh _ _ (.head _)
  have h1 := hh _ _ (.tail _ (.head _))
  have h2 := hh _ _ (.tail _ (.tail _ (.head _)))
  have h3 := hh _ _ (.tail _ (.tail _ (.tail _ (.head _))))
  have h4 := hh _ _ (.tail _ (.tail _ (.tail _ (.tail _ (.head _)))))
  have h5 := hh _ _ (.tail _ (.tail _ (.tail _ (.tail _ (.tail _ (.head _))))))
  have h6 := hh _ _ (.tail _ (.tail _ (.tail _ (.tail _ (.tail _ (.tail _ (.head _)))))))
  have h7 := hh _ _ (.tail _ (.tail _ (.tail _ (.tail _ (.tail _ (.tail _ (.tail _ (.head _))))))))
  clear hh
  simp only [N.den, aAdd, aSub, aMul, aQuo, aRem, true_iff, Bool.false_eq_true, false_iff, bI_ne, ieq_iff, ilt_iff, Classical.not_not] at h0 h1 h2 h3 h4 h5 h6 h7
  generalize hA0 : max 0 (min 18446744073709551615 (i 0)) = a at *
  generalize hB0 : max 0 (min 18446744073709551615 (i 1)) = b at *
  have ha : 0 ≤ a ∧ a ≤ 18446744073709551615 := by omega
  have hb : 0 ≤ b ∧ b ≤ 18446744073709551615 := by omega
  clear hA0 hB0
  have n1 : wrapF .i32 b ≠ 0 := by omega
  have n2 : wrapF .i32 b ≠ -1 := by omega
  obtain ⟨A, B, Q, R, P, e1, e2, e3, e4, e5, e6, e7, e8, e9, e10, e11, e12, e13, e14, e15, e16⟩ := wdiv_facts a b n1 n2
  simp only [w_u64, w_u32, e1, e2, e3, e4, e5] at h0 h1 h2 h3 h4 h5 h6 h7
  omega
theorem exc_37 (i : Nat → Int) (hh : Holds i [((.lt (.conv .u64 (.conv .i32 (.ar .rem .i64 (.conv .i32 (.var 0 0 18446744073709551615)) (.conv .i32 (.var 1 0 18446744073709551615))))) (.ar .sub .u64 (.lit 0) (.conv .u64 (.conv .i32 (.var 1 0 18446744073709551615))))), false), ((.lt (.conv .u64 (.conv .i32 (.var 1 0 18446744073709551615))) (.lit 9223372036854775808)), false), ((.lt (.conv .u64 (.conv .i32 (.ar .rem .i64 (.conv .i32 (.var 0 0 18446744073709551615)) (.conv .i32 (.var 1 0 18446744073709551615))))) (.lit 9223372036854775808)), true), ((.eq (.conv .u32 (.ar .add .u64 (.ar .mul .u64 (.ar .quo .i64 (.conv .i32 (.var 0 0 18446744073709551615)) (.conv .i32 (.var 1 0 18446744073709551615))) (.var 1 0 18446744073709551615)) (.ar .rem .i64 (.conv .i32 (.var 0 0 18446744073709551615)) (.conv .i32 (.var 1 0 18446744073709551615))))) (.conv .u32 (.var 0 0 18446744073709551615))), true), ((.eq (.conv .i32 (.var 1 0 18446744073709551615)) (.lit (-1))), false), ((.eq (.conv .i32 (.var 1 0 18446744073709551615)) (.lit 0)), false)]) : False := by
  have h0 := hh _ _ (.head _)
  have h1 := hh _ _ (.tail _ (.head _))
  have h2 := hh _ _ (.tail _ (.tail _ (.head _)))
  have h3 := hh _ _ (.tail _ (.tail _ (.tail _ (.head _))))
  have h4 := hh _ _ (.tail _ (.tail _ (.tail _ (.tail _ (.head _)))))
  have h5 := hh _ _ (.tail _ (.tail _ (.tail _ (.tail _ (.tail _ (.head _))))))
  clear hh
  simp only [N.den, aAdd, aSub, aMul, aQuo, aRem, true_iff, Bool.false_eq_true, false_iff, bI_ne, ieq_iff, ilt_iff, Classical.not_not] at h0 h1 h2 h3 h4 h5
  generalize hA0 : max 0 (min 18446744073709551615 (i 0)) = a at *
  generalize hB0 : max 0 (min 18446744073709551615 (i 1)) = b at *
  have ha : 0 ≤ a ∧ a ≤ 18446744073709551615 := by omega
  have hb : 0 ≤ b ∧ b ≤ 18446744073709551615 := by omega
  clear hA0 hB0
  have n1 : wrapF .i32 b ≠ 0 := by omega
  have n2 : wrapF .i32 b ≠ -1 := by omega
  obtain ⟨A, B, Q, R, P, e1, e2, e3, e4, e5, e6, e7, e8, e9, e10, e11, e12, e13, e14, e15, e16⟩ := wdiv_facts a b n1 n2
  simp only [w_u64, w_u32, e1, e2, e3, e4, e5] at h0 h1 h2 h3 h4 h5
  omega
theorem exc_38 (i : Nat → Int) (hh : Holds i [((.lt (.conv .u64 (.conv .i32 (.var 0 0 18446744073709551615))) (.lit 9223372036854775808)), false), ((.eq (.conv .i32 (.ar .rem .i64 (.conv .i32 (.var 0 0 18446744073709551615)) (.conv .i32 (.var 1 0 18446744073709551615)))) (.lit 0)), false), ((.lt (.conv .u64 (.conv .i32 (.ar .rem .i64 (.conv .i32 (.var 0 0 18446744073709551615)) (.conv .i32 (.var 1 0 18446744073709551615))))) (.ar .sub .u64 (.lit 0) (.conv .u64 (.conv .i32 (.var 1 0 18446744073709551615))))), true), ((.lt (.conv .u64 (.conv .i32 (.var 1 0 18446744073709551615))) (.lit 9223372036854775808)), false), ((.lt (.conv .u64 (.conv .i32 (.ar .rem .i64 (.conv .i32 (.var 0 0 18446744073709551615)) (.conv .i32 (.var 1 0 18446744073709551615))))) (.lit 9223372036854775808)), true), ((.eq (.conv .u32 (.ar .add .u64 (.ar .mul .u64 (.ar .quo .i64 (.conv .i32 (.var 0 0 18446744073709551615)) (.conv .i32 (.var 1 0 18446744073709551615))) (.var 1 0 18446744073709551615)) (.ar .rem .i64 (.conv .i32 (.var 0 0 18446744073709551615)) (.conv .i32 (.var 1 0 18446744073709551615))))) (.conv .u32 (.var 0 0 18446744073709551615))), true), ((.eq (.conv .i32 (.var 1 0 18446744073709551615)) (.lit (-1))), false), ((.eq (.conv .i32 (.var 1 0 18446744073709551615)) (.lit 0)), false)]) : False := by
  have h0 := hh _ _ (.head _)
  have h1 := hh _ _ (.tail _ (.head _))
  have h2 := hh _ _ (.tail _ (.tail _ (.head _)))
  have h3 := hh _ _ (.tail _ (.tail _ (.tail _ (.head _))))
  have h4 := hh _ _ (.tail _ (.tail _ (.tail _ (.tail _ (.head _)))))
  have h5 := hh _ _ (.tail _ (.tail _ (.tail _ (.tail _ (.tail _ (.head _))))))
  have h6 := hh _ _ (.tail _ (.tail _ (.tail _ (.tail _ (.tail _ (.tail _ (.head _)))))))
  have h7 := hh _ _ (.tail _ (.tail _ (.tail _ (.tail _ (.tail _ (.tail _ (.tail _ (.head _))))))))
  clear hh
  simp only [N.den, aAdd, aSub, aMul, aQuo, aRem, true_iff, Bool.false_eq_true, false_iff, bI_ne, ieq_iff, ilt_iff, Classical.not_not] at h0 h1 h2 h3 h4 h5 h6 h7
  generalize hA0 : max 0 (min 18446744073709551615 (i 0)) = a at *
  generalize hB0 : max 0 (min 18446744073709551615 (i 1)) = b at *
  have ha : 0 ≤ a ∧ a ≤ 18446744073709551615 := by omega
  have hb : 0 ≤ b ∧ b ≤ 18446744073709551615 := by omega
  clear hA0 hB0
  have n1 : wrapF .i32 b ≠ 0 := by omega
  have n2 : wrapF .i32 b ≠ -1 := by omega
  obtain ⟨A, B, Q, R, P, e1, e2, e3, e4, e5, e6, e7, e8, e9, e10, e11, e12, e13, e14, e15, e16⟩ := wdiv_facts a b n1 n2
  simp only [w_u64, w_u32, e1, e2, e3, e4, e5] at h0 h1 h2 h3 h4 h5 h6 h7
  omega
theorem exc_39 (i : Nat → Int) (hh : Holds i [((.lt (.conv .u64 (.conv .i32 (.ar .rem .i64 (.conv .i32 (.var 0 0 18446744073709551615)) (.conv .i32 (.var 1 0 18446744073709551615))))) (.conv .u64 (.conv .i32 (.var 1 0 18446744073709551615)))), false), ((.lt (.conv .u64 (.conv .i32 (.var 1 0 18446744073709551615))) (.lit 9223372036854775808)), true), ((.lt (.conv .u64 (.conv .i32 (.ar .rem .i64 (.conv .i32 (.var 0 0 18446744073709551615)) (.conv .i32 (.var 1 0 18446744073709551615))))) (.lit 9223372036854775808)), true), ((.eq (.conv .u32 (.ar .add .u64 (.ar .mul .u64 (.ar .quo .i64 (.conv .i32 (.var 0 0 18446744073709551615)) (.conv .i32 (.var 1 0 18446744073709551615))) (.var 1 0 18446744073709551615)) (.ar .rem .i64 (.conv .i32 (.var 0 0 18446744073709551615)) (.conv .i32 (.var 1 0 18446744073709551615))))) (.conv .u32 (.var 0 0 18446744073709551615))), true), ((.eq (.conv .i32 (.var 1 0 18446744073709551615)) (.lit (-1))), false), ((.eq (.conv .i32 (.var 1 0 18446744073709551615)) (.lit 0)), false)]) : False := by
  have h0 := hh _ _ (.head _)
  have h1 := hh _ _ (.tail _ (.head _))
  have h2 := hh _ _ (.tail _ (.tail _ (.head _)))
  have h3 := hh _ _ (.tail _ (.tail _ (.tail _ (.head _))))
  have h4 := hh _ _ (.tail _ (.tail _ (.tail _ (.tail _ (.head _)))))
  have h5 := hh _ _ (.tail _ (.tail _ (.tail _ (.tail _ (.tail _ (.head _))))))
  clear hh
  simp only [N.den, aAdd, aSub, aMul, aQuo, aRem, true_iff, Bool.false_eq_true, false_iff, bI_ne, ieq_iff, ilt_iff, Classical.not_not] at h0 h1 h2 h3 h4 h5
  generalize hA0 : max 0 (min 18446744073709551615 (i 0)) = a at *
  generalize hB0 : max 0 (min 18446744073709551615 (i 1)) = b at *
  have ha : 0 ≤ a ∧ a ≤ 18446744073709551615 := by omega
  have hb : 0 ≤ b ∧ b ≤ 18446744073709551615 := by omega
  clear hA0 hB0
  have n1 : wrapF .i32 b ≠ 0 := by omega
  have n2 : wrapF .i32 b ≠ -1 := by omega
  obtain ⟨A, B, Q, R, P, e1, e2, e3, e4, e5, e6, e7, e8, e9, e10, e11, e12, e13, e14, e15, e16⟩ := wdiv_facts a b n1 n2
  simp only [w_u64, w_u32, e1, e2, e3, e4, e5] at h0 h1 h2 h3 h4 h5
  omega
theorem exc_40 (i : Nat → Int) (hh : Holds i [((.lt (.conv .u64 (.conv .i32 (.var 0 0 18446744073709551615))) (.lit 9223372036854775808)), false), ((.eq (.conv .i32 (.ar .rem .i64 (.conv .i32 (.var 0 0 18446744073709551615)) (.conv .i32 (.var 1 0 18446744073709551615)))) (.lit 0)), false), ((.lt (.conv .u64 (.conv .i32 (.ar .rem .i64 (.conv .i32 (.var 0 0 18446744073709551615)) (.conv .i32 (.var 1 0 18446744073709551615))))) (.conv .u64 (.conv .i32 (.var 1 0 18446744073709551615)))), true), ((.lt (.conv .u64 (.conv .i32 (.var 1 0 18446744073709551615))) (.lit 9223372036854775808)), true), ((.lt (.conv .u64 (.conv .i32 (.ar .rem .i64 (.conv .i32 (.var 0 0 18446744073709551615)) (.conv .i32 (.var 1 0 18446744073709551615))))) (.lit 9223372036854775808)), true), ((.eq (.conv .u32 (.ar .add .u64 (.ar .mul .u64 (.ar .quo .i64 (.conv .i32 (.var 0 0 18446744073709551615)) (.conv .i32 (.var 1 0 18446744073709551615))) (.var 1 0 18446744073709551615)) (.ar .rem .i64 (.conv .i32 (.var 0 0 18446744073709551615)) (.conv .i32 (.var 1 0 18446744073709551615))))) (.conv .u32 (.var 0 0 18446744073709551615))), true), ((.eq (.conv .i32 (.var 1 0 18446744073709551615)) (.lit (-1))), false), ((.eq (.conv .i32 (.var 1 0 18446744073709551615)) (.lit 0)), false)]) : False := by
  have h0 := hh _ _ (.head _)
  have h1 := hh _ _ (.tail _ (.head _))
  have h2 := hh _ _ (.tail _ (.tail _ (.head _)))
  have h3 := hh _ _ (.tail _ (.tail _ (.tail _ (.head _))))
  have h4 := hh _ _ (.tail _ (.tail _ (.tail _ (.tail _ (.head _)))))
  have h5 := hh _ _ (.tail _ (.tail _ (.tail _ (.tail _ (.tail _ (.head _))))))
  have h6 := hh _ _ (.tail _ (.tail _ (.tail _ (.tail _ (.tail _ (.tail _ (.head _)))))))
  have h7 := hh _ _ (.tail _ (.tail _ (.tail _ (.tail _ (.tail _ (.tail _ (.tail _ (.head _))))))))
  clear hh
  simp only [N.den, aAdd, aSub, aMul, aQuo, aRem, true_iff, Bool.false_eq_true, false_iff, bI_ne, ieq_iff, ilt_iff, Classical.not_not] at h0 h1 h2 h3 h4 h5 h6 h7
  generalize hA0 : max 0 (min 18446744073709551615 (i 0)) = a at *
  generalize hB0 : max 0 (min 18446744073709551615 (i 1)) = b at *
  have ha : 0 ≤ a ∧ a ≤ 18446744073709551615 := by omega
  have hb : 0 ≤ b ∧ b ≤ 18446744073709551615 := by omega
  clear hA0 hB0
  have n1 : wrapF .i32 b ≠ 0 := by omega
  have n2 : wrapF .i32 b ≠ -1 := by omega
  obtain ⟨A, B, Q, R, P, e1, e2, e3, e4, e5, e6, e7, e8, e9, e10, e11, e12, e13, e14, e15, e16⟩ := wdiv_facts a b n1 n2
  simp only [w_u64, w_u32, e1, e2, e3, e4, e5] at h0 h1 h2 h3 h4 h5 h6 h7
  omega
theorem exc_41 (i : Nat → Int) (hh : Holds i [((.lt (.conv .u32 (.ar .rem .u64 (.ar .and .u64 (.var 0 0 18446744073709551615) (.lit 4294967295)) (.ar .and .u64 (.var 1 0 18446744073709551615) (.lit 4294967295)))) (.conv .u32 (.var 1 0 18446744073709551615))), false), ((.eq (.ar .add .u32 (.ar .mul .u32 (.conv .u32 (.ar .quo .u64 (.ar .and .u64 (.var 0 0 18446744073709551615) (.lit 4294967295)) (.ar .and .u64 (.var 1 0 18446744073709551615) (.lit 4294967295)))) (.conv .u32 (.var 1 0 18446744073709551615))) (.conv .u32 (.ar .rem .u64 (.ar .and .u64 (.var 0 0 18446744073709551615) (.lit 4294967295)) (.ar .and .u64 (.var 1 0 18446744073709551615) (.lit 4294967295))))) (.conv .u32 (.var 0 0 18446744073709551615))), true), ((.eq (.ar .and .u64 (.var 1 0 18446744073709551615) (.lit 4294967295)) (.lit 0)), false)]) : False := by
  have h0 := hh _ _ (.head _)
  have h1 := hh _ _ (.tail _ (.head _))
  have h2 := hh _ _ (.tail _ (.tail _ (.head _)))
  clear hh
  simp only [N.den, aAdd, aSub, aMul, aQuo, aRem, true_iff, Bool.false_eq_true, false_iff, bI_ne, ieq_iff, ilt_iff, Classical.not_not] at h0 h1 h2
  generalize hA0 : max 0 (min 18446744073709551615 (i 0)) = a at *
  generalize hB0 : max 0 (min 18446744073709551615 (i 1)) = b at *
  have ha : 0 ≤ a ∧ a ≤ 18446744073709551615 := by omega
  have hb : 0 ≤ b ∧ b ≤ 18446744073709551615 := by omega
  clear hA0 hB0
  have la := and_low a ha.1 ha.2
  have lb := and_low b hb.1 hb.2
  simp only [la, lb] at h0 h1 h2
  have nb : ¬ b % 4294967296 = 0 := by omega
  obtain ⟨q, r, PU, f1, f2, f3, f4, f5, f6, f7, f8⟩ := udiv_facts (a % 4294967296) (b % 4294967296) (by omega) (by omega)
  simp only [w_u64, w_u32, f1, f2] at h0 h1 h2
  have k1 := mulmod2 (m := 4294967296) (x := q % 18446744073709551616) (b := b % 4294967296) (B := b % 4294967296) rfl
  have k2 : q % 18446744073709551616 = q := by omega
  rw [k2] at *
  omega
theorem exc_42 (i : Nat → Int) (hh : Holds i [((.eq (.ar .add .u32 (.ar .mul .u32 (.conv .u32 (.ar .quo .u64 (.ar .and .u64 (.var 0 0 18446744073709551615) (.lit 4294967295)) (.ar .and .u64 (.var 1 0 18446744073709551615) (.lit 4294967295)))) (.conv .u32 (.var 1 0 18446744073709551615))) (.conv .u32 (.ar .rem .u64 (.ar .and .u64 (.var 0 0 18446744073709551615) (.lit 4294967295)) (.ar .and .u64 (.var 1 0 18446744073709551615) (.lit 4294967295))))) (.conv .u32 (.var 0 0 18446744073709551615))), false), ((.eq (.ar .and .u64 (.var 1 0 18446744073709551615) (.lit 4294967295)) (.lit 0)), false)]) : False := by
  have h0 := hh _ _ (.head _)
  have h1 := hh _ _ (.tail _ (.head _))
  clear hh
  simp only [N.den, aAdd, aSub, aMul, aQuo, aRem, true_iff, Bool.false_eq_true, false_iff, bI_ne, ieq_iff, ilt_iff, Classical.not_not] at h0 h1
  generalize hA0 : max 0 (min 18446744073709551615 (i 0)) = a at *
  generalize hB0 : max 0 (min 18446744073709551615 (i 1)) = b at *
  have ha : 0 ≤ a ∧ a ≤ 18446744073709551615 := by omega
  have hb : 0 ≤ b ∧ b ≤ 18446744073709551615 := by omega
  clear hA0 hB0
  have la := and_low a ha.1 ha.2
  have lb := and_low b hb.1 hb.2
  simp only [la, lb] at h0 h1
  have nb : ¬ b % 4294967296 = 0 := by omega
  obtain ⟨q, r, PU, f1, f2, f3, f4, f5, f6, f7, f8⟩ := udiv_facts (a % 4294967296) (b % 4294967296) (by omega) (by omega)
  simp only [w_u64, w_u32, f1, f2] at h0 h1
  have k1 := mulmod2 (m := 4294967296) (x := q % 18446744073709551616) (b := b % 4294967296) (B := b % 4294967296) rfl
  have k2 : q % 18446744073709551616 = q := by omega
  rw [k2] at *
  omega
theorem exc0_no : ∀ q ∈ exc0, ∀ i, ¬ Holds i q :=
  List.forall_mem_cons.2 ⟨exc_0, List.forall_mem_cons.2 ⟨exc_1, List.forall_mem_cons.2 ⟨exc_2, List.forall_mem_cons.2 ⟨exc_3, List.forall_mem_cons.2 ⟨exc_4, List.forall_mem_cons.2 ⟨exc_5, List.forall_mem_cons.2 ⟨exc_6, List.forall_mem_cons.2 ⟨exc_7, List.forall_mem_cons.2 ⟨exc_8, List.forall_mem_cons.2 ⟨exc_9, List.forall_mem_cons.2 ⟨exc_10, List.forall_mem_cons.2 ⟨exc_11, List.forall_mem_cons.2 ⟨exc_12, List.forall_mem_cons.2 ⟨exc_13, List.forall_mem_cons.2 ⟨exc_14, List.forall_mem_cons.2 ⟨exc_15, List.forall_mem_cons.2 ⟨exc_16, List.forall_mem_cons.2 ⟨exc_17, List.forall_mem_cons.2 ⟨exc_18, List.forall_mem_cons.2 ⟨exc_19, List.forall_mem_cons.2 ⟨exc_20, List.forall_mem_cons.2 ⟨exc_21, List.forall_mem_cons.2 ⟨exc_22, List.forall_mem_cons.2 ⟨exc_23, List.forall_mem_cons.2 ⟨exc_24, List.forall_mem_cons.2 ⟨exc_25, List.forall_mem_cons.2 ⟨exc_26, List.forall_mem_cons.2 ⟨exc_27, List.forall_mem_cons.2 ⟨exc_28, List.forall_mem_cons.2 ⟨exc_29, List.forall_mem_cons.2 ⟨exc_30, List.forall_mem_cons.2 ⟨exc_31, List.forall_mem_cons.2 ⟨exc_32, List.forall_mem_cons.2 ⟨exc_33, List.forall_mem_cons.2 ⟨exc_34, List.forall_mem_cons.2 ⟨exc_35, List.forall_mem_cons.2 ⟨exc_36, List.forall_mem_cons.2 ⟨exc_37, List.forall_mem_cons.2 ⟨exc_38, List.forall_mem_cons.2 ⟨exc_39, List.forall_mem_cons.2 ⟨exc_40, List.forall_mem_cons.2 ⟨exc_41, List.forall_mem_cons.2 ⟨exc_42, (fun p h => by cases h)⟩⟩⟩⟩⟩⟩⟩⟩⟩⟩⟩⟩⟩⟩⟩⟩⟩⟩⟩⟩⟩⟩⟩⟩⟩⟩⟩⟩⟩⟩⟩⟩⟩⟩⟩⟩⟩⟩⟩⟩⟩⟩⟩
end Go.Proofs.Ytgfhjldfhcoagaa.Sx
