/- AluMultiplies: what the reader is told ahead is so. -/
import Derived.Test.YtblphdjfdjaegaaLAluMultiplies
namespace Go.Proofs.Ytblphdjfdjaegaa.Sx
open Go

theorem var_nat (e : Nat → Int) (i : Nat) : ∃ n : Nat, N.den e (.var i 0 18446744073709551615) = (n : Int) ∧ n < 18446744073709551616 := by
  have h : 0 ≤ max 0 (min 18446744073709551615 (e i)) ∧ max 0 (min 18446744073709551615 (e i)) ≤ 18446744073709551615 := by omega
  refine ⟨(max 0 (min 18446744073709551615 (e i))).toNat, ?_, ?_⟩
  · simp only [N.den]; omega
  · omega
theorem wrap_u64 (x : Int) : wrapF .u64 x = x % 18446744073709551616 := by
  have := lowOf_eq .u64 x
  simp only [span] at this
  simpa [wrapF, ofLow, isSigned] using this
theorem add_u64 (x y : Nat) : arF .add .u64 x y = ((x + y) % 18446744073709551616 : Nat) := by
  have := wrap_u64 ((x : Int) + y); simp only [arF]; omega
theorem mul_u64 (x y : Nat) : arF .mul .u64 x y = ((x * y) % 18446744073709551616 : Nat) := by
  have := wrap_u64 ((x : Int) * y); simp only [arF]; rw [this]; simp
theorem shl_u64 (x : Nat) : arF .shl .u64 x 32 = ((x * 4294967296) % 18446744073709551616 : Nat) := by
  have := wrap_u64 ((x : Int) * 4294967296); simp only [arF]
  rw [show (Int.ofNat (2 ^ (min (32 : Int).toNat (kindBits .u64)))) = 4294967296 from rfl]; omega
theorem shr_u64 (x : Nat) : arF .shr .u64 x 32 = (x / 4294967296 : Nat) := by
  simp only [arF]
  rw [show (Int.ofNat (2 ^ (min (32 : Int).toNat (kindBits .u64)))) = 4294967296 from rfl, Int.fdiv_eq_ediv_of_nonneg _ (by decide)]
  omega
theorem and_u64 (x : Nat) : arF .and .u64 x 4294967295 = (x % 4294967296 : Nat) := by
  simp only [arF, ofLow, isSigned]
  have : Nat.land (lowOf .u64 x) (lowOf .u64 4294967295) = x % 18446744073709551616 % 4294967296 := Nat.and_two_pow_sub_one_eq_mod (x % 18446744073709551616) 32
  rw [this]
  have h : x % 18446744073709551616 % 4294967296 = x % 4294967296 := by omega
  rw [h]; rfl
theorem or_u64 (x y : Nat) (hx : x % 4294967296 = 0) (hy : y < 4294967296) (hb : x < 18446744073709551616) : arF .or .u64 x y = (x + y : Nat) := by
  simp only [arF, ofLow, isSigned]
  have h1 : lowOf .u64 (x : Int) = x := Nat.mod_eq_of_lt hb
  have h2 : lowOf .u64 (y : Int) = y := Nat.mod_eq_of_lt (show y < 18446744073709551616 by omega)
  rw [h1, h2]
  obtain ⟨k, rfl⟩ : ∃ k, x = 2 ^ 32 * k := ⟨x / 4294967296, by omega⟩
  have := Nat.two_pow_add_eq_or_of_lt (show y < 2 ^ 32 from hy) k
  rw [this]; rfl
theorem eqTrue {e : Nat → Int} {a b : N} (h : a.den e = b.den e) : (true = true ↔ (N.eq a b).den e ≠ 0) := by
  simp only [N.den, true_iff, bI_ne, ieq_iff, h]

/-- The halves' products. -/
theorem halves (m n : Nat) (hm : m < 18446744073709551616) (hn : n < 18446744073709551616) :
    ∃ x1 x0 y1 y0 p q r s : Nat, m / 4294967296 = x1 ∧ m % 4294967296 = x0 ∧ n / 4294967296 = y1 ∧ n % 4294967296 = y0 ∧ x1 * y1 = p ∧ x1 * y0 = q ∧ x0 * y1 = r ∧ x0 * y0 = s ∧
      p ≤ 18446744065119617025 ∧ q ≤ 18446744065119617025 ∧ r ≤ 18446744065119617025 ∧ s ≤ 18446744065119617025 ∧ m * n = p * 18446744073709551616 + (q + r) * 4294967296 + s ∧
      (x1 * n) % 4294967296 = q % 4294967296 ∧ (m * y1) % 4294967296 = r % 4294967296 ∧ (x0 * n) % 4294967296 = s % 4294967296 := by
  have h1 : m / 4294967296 ≤ 4294967295 := by omega
  have h2 : m % 4294967296 ≤ 4294967295 := by omega
  have h3 : n / 4294967296 ≤ 4294967295 := by omega
  have h4 : n % 4294967296 ≤ 4294967295 := by omega
  refine ⟨_, _, _, _, _, _, _, _, rfl, rfl, rfl, rfl, rfl, rfl, rfl, rfl, Nat.mul_le_mul h1 h3, Nat.mul_le_mul h1 h4, Nat.mul_le_mul h2 h3, Nat.mul_le_mul h2 h4, ?_, ?_, ?_, ?_⟩
  · have em : m = m / 4294967296 * 4294967296 + m % 4294967296 := by omega
    have en : n = n / 4294967296 * 4294967296 + n % 4294967296 := by omega
    generalize m / 4294967296 = a at *
    generalize m % 4294967296 = b at *
    generalize n / 4294967296 = c at *
    generalize n % 4294967296 = d at *
    subst em en
    have e1 : a * 4294967296 * (c * 4294967296) = a * c * 18446744073709551616 := by
      rw [Nat.mul_mul_mul_comm]
    have e2 : a * 4294967296 * d = a * d * 4294967296 := Nat.mul_right_comm _ _ _
    have e3 : b * (c * 4294967296) = b * c * 4294967296 := (Nat.mul_assoc _ _ _).symm
    rw [Nat.add_mul, Nat.mul_add, Nat.mul_add, e1, e2, e3, Nat.add_mul]
    omega
  · exact (Nat.mul_mod_mod _ _ _).symm
  · exact (Nat.mod_mul_mod _ _ _).symm
  · exact (Nat.mul_mod_mod _ _ _).symm
theorem fact0_den (e : Nat → Int) : ∃ a b, fact0 = .eq a b ∧ a.den e = b.den e := by
  refine ⟨_, _, rfl, ?_⟩
  obtain ⟨m, hm, hm'⟩ := var_nat e 0
  obtain ⟨n, hn, hn'⟩ := var_nat e 1
  simp only [N.den] at hm hn ⊢
  obtain ⟨x1, x0, y1, y0, p, q, r, s, e1, e2, e3, e4, f1, f2, f3, f4, b1, b2, b3, b4, g, g1, g2, g3⟩ := halves m n hm' hn'
  simp only [hm, hn, shr_u64, and_u64, mul_u64, add_u64, e1, e2, e3, e4, f1, f2, f3, f4, g]
  generalize x1 * n = k1 at *
  generalize m * y1 = k2 at *
  generalize x0 * n = k3 at *
  congr 1
  omega
theorem fact2_den (e : Nat → Int) : ∃ a b, fact2 = .eq a b ∧ a.den e = b.den e := by
  refine ⟨_, _, rfl, ?_⟩
  obtain ⟨m, hm, hm'⟩ := var_nat e 0
  obtain ⟨n, hn, hn'⟩ := var_nat e 1
  simp only [N.den] at hm hn ⊢
  obtain ⟨x1, x0, y1, y0, p, q, r, s, e1, e2, e3, e4, f1, f2, f3, f4, b1, b2, b3, b4, g, g1, g2, g3⟩ := halves m n hm' hn'
  simp only [hm, hn, shr_u64, and_u64, mul_u64, add_u64, e1, e2, e3, e4, f1, f2, f3, f4, g]
  have c1 : y1 * x1 = p := by rw [Nat.mul_comm]; exact f1
  have c2 : y1 * x0 = r := by rw [Nat.mul_comm]; exact f3
  have c3 : y0 * x1 = q := by rw [Nat.mul_comm]; exact f2
  have c4 : y0 * x0 = s := by rw [Nat.mul_comm]; exact f4
  have c5 : y1 * m = m * y1 := Nat.mul_comm _ _
  simp only [c1, c2, c3, c4, c5]
  generalize x1 * n = k1 at *
  generalize m * y1 = k2 at *
  generalize x0 * n = k3 at *
  congr 1
  omega
theorem fact1_den (e : Nat → Int) : ∃ a b, fact1 = .eq a b ∧ a.den e = b.den e := by
  refine ⟨_, _, rfl, ?_⟩
  obtain ⟨m, hm, hm'⟩ := var_nat e 0
  obtain ⟨n, hn, hn'⟩ := var_nat e 1
  simp only [N.den] at hm hn ⊢
  obtain ⟨x1, x0, y1, y0, p, q, r, s, e1, e2, e3, e4, f1, f2, f3, f4, b1, b2, b3, b4, g, g1, g2, g3⟩ := halves m n hm' hn'
  simp only [hm, hn, shr_u64, and_u64, mul_u64, add_u64, shl_u64, e1, e2, e3, e4, f1, f2, f3, f4, g]
  generalize x1 * n = k1 at *
  generalize m * y1 = k2 at *
  generalize x0 * n = k3 at *
  rw [or_u64 _ _ (by omega) (by omega) (by omega)]
  congr 1
  omega
theorem fact0_ok (e : Nat → Int) : (true = true ↔ fact0.den e ≠ 0) := by
  obtain ⟨a, b, h, hd⟩ := fact0_den e; rw [h]; exact eqTrue hd
theorem fact1_ok (e : Nat → Int) : (true = true ↔ fact1.den e ≠ 0) := by
  obtain ⟨a, b, h, hd⟩ := fact1_den e; rw [h]; exact eqTrue hd
theorem fact2_ok (e : Nat → Int) : (true = true ↔ fact2.den e ≠ 0) := by
  obtain ⟨a, b, h, hd⟩ := fact2_den e; rw [h]; exact eqTrue hd
theorem common_ok (e : Nat → Int) : Holds e common :=
  (((show Holds e [] from fun _ _ h => by cases h).cons (fact2_ok e)).cons (fact1_ok e)).cons (fact0_ok e)
theorem conv_i64_nat {n : Nat} (h : n < 18446744073709551616) : wrapF .i64 n = if n < 9223372036854775808 then (n : Int) else (n : Int) - 18446744073709551616 := by
  rw [wrapF_eq]
  simp only [IntKind.wrap, IntKind.signed, IntKind.bits, Bool.true_and, decide_eq_true_eq, show (2 : Int) ^ 64 = 18446744073709551616 from rfl, show (2 : Int) ^ (64 - 1) = 9223372036854775808 from rfl]
  rw [Int.emod_eq_of_lt (by omega) (by omega)]
  split <;> split <;> omega
theorem tl {a b : N} {e : Nat → Int} (h : a.den e < b.den e) : (true = true ↔ (N.lt a b).den e ≠ 0) := by
  simp only [N.den, true_iff, bI_ne, ilt_iff]; exact h
theorem fl {a b : N} {e : Nat → Int} (h : ¬ a.den e < b.den e) : (false = true ↔ (N.lt a b).den e ≠ 0) := by
  simp only [N.den, Bool.false_eq_true, false_iff, bI_ne, ilt_iff, ne_eq]; exact fun k => h (by simpa using k)
/-- What the reckonings come to. -/
theorem high (e : Nat → Int) : ∀ {a b c d : N}, fact0 = .eq a b → fact2 = .eq c d → a.den e = b.den e ∧ c.den e = d.den e := by
  intro a b c d h0 h2
  obtain ⟨a', b', h, hd⟩ := fact0_den e
  rw [h] at h0; cases h0
  obtain ⟨c', d', h', hd'⟩ := fact2_den e
  rw [h'] at h2; cases h2
  exact ⟨hd, hd'⟩
theorem cases_ok (e : Nat → Int) : Holds e (case0 ++ common) ∨ Holds e (case1 ++ common) ∨ Holds e (case2 ++ common) ∨ Holds e (case3 ++ common) := by
  obtain ⟨m, hm, hm'⟩ := var_nat e 0
  obtain ⟨n, hn, hn'⟩ := var_nat e 1
  have c0 : N.den e (.conv .i64 v0) = if m < 9223372036854775808 then (m : Int) else (m : Int) - 18446744073709551616 := by rw [← conv_i64_nat hm', ← hm]; rfl
  have c1 : N.den e (.conv .i64 v1) = if n < 9223372036854775808 then (n : Int) else (n : Int) - 18446744073709551616 := by rw [← conv_i64_nat hn', ← hn]; rfl
  have lit : ∀ z : Int, N.den e (.lit z) = z := fun z => rfl
  obtain ⟨hA, hB⟩ := high e rfl rfl
  have ar : ∀ {f : BinOp} {k : IntKind} {a a' b b' : N}, a.den e = a'.den e → b.den e = b'.den e → N.den e (.ar f k a b) = N.den e (.ar f k a' b') := fun h h' => by simp only [N.den, h, h']
  have subsub : ∀ {a a' b c : N}, a.den e = a'.den e → N.den e (.ar .sub .u64 (.ar .sub .u64 a b) c) = N.den e (.ar .sub .u64 (.ar .sub .u64 a' c) b) := fun {a a' b c} h => by
    simp only [N.den, h, arF, wrap_u64]; omega
  by_cases h0 : m < 9223372036854775808
  · by_cases h1 : n < 9223372036854775808
    · refine .inl ?_
      simp only [case0, List.cons_append, List.nil_append]
      refine ((((((common_ok e).cons (eqTrue ?_)).cons (tl ?_)).cons (fl ?_)).cons (tl ?_)).cons (fl ?_))
      all_goals first
        | exact hA.trans hB.symm
        | exact ar (hA.trans hB.symm) rfl
        | exact ar hA rfl
        | exact ar (ar hA rfl) rfl
        | exact subsub (hA.trans hB.symm)
        | (simp only [hm, hn, c0, c1, lit]; omega)
        | (simp only [hm, hn, c0, c1, lit]; split <;> omega)
    · refine .inr (.inl ?_)
      simp only [case1, List.cons_append, List.nil_append]
      refine (((((((common_ok e).cons (eqTrue ?_)).cons (eqTrue ?_)).cons (fl ?_)).cons (tl ?_)).cons (tl ?_)).cons (fl ?_))
      all_goals first
        | exact hA.trans hB.symm
        | exact ar (hA.trans hB.symm) rfl
        | exact ar hA rfl
        | exact ar (ar hA rfl) rfl
        | exact subsub (hA.trans hB.symm)
        | (simp only [hm, hn, c0, c1, lit]; omega)
        | (simp only [hm, hn, c0, c1, lit]; split <;> omega)
  · by_cases h1 : n < 9223372036854775808
    · refine .inr (.inr (.inl ?_))
      simp only [case2, List.cons_append, List.nil_append]
      refine (((((((common_ok e).cons (eqTrue ?_)).cons (eqTrue ?_)).cons (tl ?_)).cons (fl ?_)).cons (fl ?_)).cons (tl ?_))
      all_goals first
        | exact hA.trans hB.symm
        | exact ar (hA.trans hB.symm) rfl
        | exact ar hA rfl
        | exact ar (ar hA rfl) rfl
        | exact subsub (hA.trans hB.symm)
        | (simp only [hm, hn, c0, c1, lit]; omega)
        | (simp only [hm, hn, c0, c1, lit]; split <;> omega)
    · refine .inr (.inr (.inr ?_))
      simp only [case3, List.cons_append, List.nil_append]
      refine ((((((((common_ok e).cons (eqTrue ?_)).cons (eqTrue ?_)).cons (eqTrue ?_)).cons (fl ?_)).cons (tl ?_)).cons (fl ?_)).cons (tl ?_))
      all_goals first
        | exact hA.trans hB.symm
        | exact ar (hA.trans hB.symm) rfl
        | exact ar hA rfl
        | exact ar (ar hA rfl) rfl
        | exact subsub (hA.trans hB.symm)
        | (simp only [hm, hn, c0, c1, lit]; omega)
        | (simp only [hm, hn, c0, c1, lit]; split <;> omega)
end Go.Proofs.Ytblphdjfdjaegaa.Sx
