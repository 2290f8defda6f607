/- TrapEnters: what the reader is told ahead is so. -/
import Derived.Test.YthlmpiaijiegjaaLTrapEnters
namespace Go.Proofs.Ythlmpiaijiegjaa.Sx
open Go

theorem var_nat (e : Nat → Int) (i : Nat) : ∃ n : Nat, N.den e (.var i 0 18446744073709551615) = (n : Int) ∧ n < 18446744073709551616 := by
  have h : 0 ≤ max 0 (min 18446744073709551615 (e i)) ∧ max 0 (min 18446744073709551615 (e i)) ≤ 18446744073709551615 := by omega
  refine ⟨(max 0 (min 18446744073709551615 (e i))).toNat, ?_, ?_⟩
  · simp only [N.den]; omega
  · omega
theorem var_u8 (e : Nat → Int) (i : Nat) : ∃ n : Nat, N.den e (.var i 0 255) = (n : Int) ∧ n < 256 := by
  have h : 0 ≤ max 0 (min 255 (e i)) ∧ max 0 (min 255 (e i)) ≤ 255 := by omega
  refine ⟨(max 0 (min 255 (e i))).toNat, ?_, ?_⟩
  · simp only [N.den]; omega
  · omega
theorem wrap_u64 (x : Int) : wrapF .u64 x = x % 18446744073709551616 := by
  have := lowOf_eq .u64 x
  simp only [span] at this
  simpa [wrapF, ofLow, isSigned] using this
theorem and_add_or (m n : Nat) : (m &&& n) + (m ||| n) = m + n := by
  induction m using Nat.strongRecOn generalizing n with
  | _ m ih =>
    rcases Nat.eq_zero_or_pos m with h0 | h0
    · subst h0; simp
    · have := ih (m / 2) (by omega) (n / 2)
      have a1 : (m &&& n) / 2 = m / 2 &&& n / 2 := Nat.and_div_two
      have a2 : (m ||| n) / 2 = m / 2 ||| n / 2 := Nat.or_div_two
      have b1 : (m &&& n) % 2 + (m ||| n) % 2 = m % 2 + n % 2 := by
        have c1 : (m &&& n) % 2 = (m % 2) &&& (n % 2) := by
          have := @Nat.and_mod_two_pow m n 1; simpa using this
        have c2 : (m ||| n) % 2 = (m % 2) ||| (n % 2) := by
          have := @Nat.or_mod_two_pow m n 1; simpa using this
        rw [c1, c2]
        rcases Nat.mod_two_eq_zero_or_one m with h | h <;> rcases Nat.mod_two_eq_zero_or_one n with h' | h' <;> rw [h, h'] <;> rfl
      omega
theorem andNot_3 (x : Nat) (hx : x < 18446744073709551616) : arF .andNot .u64 x 3 = (x - x % 4 : Nat) := by
  rw [show (3 : Int) = ((3 : Nat) : Int) from rfl, arF_andNot hx (by decide)]
  have h2 : x &&& 3 = x % 4 := Nat.and_two_pow_sub_one_eq_mod x 2
  have h3 : x &&& 18446744073709551615 = x := by
    have := Nat.and_two_pow_sub_one_eq_mod x 64
    rw [Nat.mod_eq_of_lt hx] at this; exact this
  have h4 := and_add_or (x &&& 3) (x &&& 18446744073709551612)
  have h5 : (x &&& 3) &&& (x &&& 18446744073709551612) = 0 := by
    rw [Nat.and_comm x 3, Nat.and_assoc, ← Nat.and_assoc x x, Nat.and_self, Nat.and_comm x 18446744073709551612, ← Nat.and_assoc, show (3 : Nat) &&& 18446744073709551612 = 0 from rfl, Nat.zero_and]
  have h6 : (x &&& 3) ||| (x &&& 18446744073709551612) = x := by
    rw [← Nat.and_or_distrib_left, show (3 : Nat) ||| 18446744073709551612 = 18446744073709551615 from rfl, h3]
  rw [h5, h6, h2] at h4
  have : x &&& 18446744073709551612 = x - x % 4 := by omega
  show ((x &&& 18446744073709551612 : Nat) : Int) = _
  rw [this]
theorem clear_3 (e : Nat → Int) (i : Nat) : N.den e (.ar .andNot .u64 (.var i 0 18446744073709551615) (.lit 3)) = N.den e (.ar .sub .u64 (.var i 0 18446744073709551615) (.ar .rem .u64 (.var i 0 18446744073709551615) (.lit 4))) := by
  obtain ⟨x, hx, hx'⟩ := var_nat e i
  simp only [N.den] at hx ⊢
  rw [hx, andNot_3 x hx']
  have hr : arF .rem .u64 x 4 = ((x % 4 : Nat) : Int) := by
    simp only [arF]; exact (Int.ofNat_tmod x 4).symm ▸ rfl
  rw [hr]
  simp only [arF, wrap_u64]
  omega
theorem andNot_1 (x : Nat) (hx : x < 18446744073709551616) : arF .andNot .u64 x 1 = (x - x % 2 : Nat) := by
  rw [show (1 : Int) = ((1 : Nat) : Int) from rfl, arF_andNot hx (by decide)]
  have h2 : x &&& 1 = x % 2 := Nat.and_two_pow_sub_one_eq_mod x 1
  have h3 : x &&& 18446744073709551615 = x := by
    have := Nat.and_two_pow_sub_one_eq_mod x 64
    rw [Nat.mod_eq_of_lt hx] at this; exact this
  have h4 := and_add_or (x &&& 1) (x &&& 18446744073709551614)
  have h5 : (x &&& 1) &&& (x &&& 18446744073709551614) = 0 := by
    rw [Nat.and_comm x 1, Nat.and_assoc, ← Nat.and_assoc x x, Nat.and_self, Nat.and_comm x 18446744073709551614, ← Nat.and_assoc, show (1 : Nat) &&& 18446744073709551614 = 0 from rfl, Nat.zero_and]
  have h6 : (x &&& 1) ||| (x &&& 18446744073709551614) = x := by
    rw [← Nat.and_or_distrib_left, show (1 : Nat) ||| 18446744073709551614 = 18446744073709551615 from rfl, h3]
  rw [h5, h6, h2] at h4
  have : x &&& 18446744073709551614 = x - x % 2 := by omega
  show ((x &&& 18446744073709551614 : Nat) : Int) = _
  rw [this]
theorem clear_1 (e : Nat → Int) (i : Nat) : N.den e (.ar .andNot .u64 (.var i 0 18446744073709551615) (.lit 1)) = N.den e (.ar .sub .u64 (.var i 0 18446744073709551615) (.ar .rem .u64 (.var i 0 18446744073709551615) (.lit 2))) := by
  obtain ⟨x, hx, hx'⟩ := var_nat e i
  simp only [N.den] at hx ⊢
  rw [hx, andNot_1 x hx']
  have hr : arF .rem .u64 x 2 = ((x % 2 : Nat) : Int) := by
    simp only [arF]; exact (Int.ofNat_tmod x 2).symm ▸ rfl
  rw [hr]
  simp only [arF, wrap_u64]
  omega
theorem top_bit (e : Nat → Int) : N.den e (.ar .or .u64 v33 (.lit 9223372036854775808)) = N.den e (.ar .add .u64 v33 (.lit 9223372036854775808)) := by
  obtain ⟨x, hx, hx'⟩ := var_u8 e 33
  simp only [N.den] at hx ⊢
  rw [hx, show (9223372036854775808 : Int) = ((9223372036854775808 : Nat) : Int) from rfl, arF_or (by omega) (by decide)]
  have h := Nat.two_pow_add_eq_or_of_lt (i := 63) (show x < 2 ^ 63 by have : (2 : Nat) ^ 63 = 9223372036854775808 := rfl
                                                                      omega) 1
  have h2 : x ||| 9223372036854775808 = 9223372036854775808 + x := by
    rw [Nat.or_comm]; exact h.symm
  rw [h2]
  simp only [arF, wrap_u64]
  omega
theorem eqTrue {e : Nat → Int} {a b : N} (h : a.den e = b.den e) : (true = true ↔ (N.eq a b).den e ≠ 0) := by
  simp only [N.den, true_iff, bI_ne, ieq_iff, h]
theorem eqFalse {e : Nat → Int} {a b : N} (h : a.den e ≠ b.den e) : (false = true ↔ (N.eq a b).den e ≠ 0) := by
  simp only [N.den, Bool.false_eq_true, false_iff, bI_ne, ieq_iff, ne_eq]; exact fun k => (h (by simpa using k)).elim
theorem tl {e : Nat → Int} {a b : N} (h : a.den e < b.den e) : (true = true ↔ (N.lt a b).den e ≠ 0) := by
  simp only [N.den, true_iff, bI_ne, ilt_iff]; exact h
theorem fl {e : Nat → Int} {a b : N} (h : ¬ a.den e < b.den e) : (false = true ↔ (N.lt a b).den e ≠ 0) := by
  simp only [N.den, Bool.false_eq_true, false_iff, bI_ne, ilt_iff, ne_eq]; exact fun k => h (by simpa using k)
theorem none_ok (e : Nat → Int) : Holds e [] := fun _ _ h => by cases h
theorem addC {e : Nat → Int} {a a' b : N} (h : a.den e = a'.den e) : N.den e (.ar .add .u64 a b) = N.den e (.ar .add .u64 a' b) := by simp only [N.den, h]
/-- The truths that hold in all cases, ahead of others. -/
theorem six {e : Nat → Int} {pc : Pc} (h : Holds e pc) : Holds e ((cf0_0, true) :: (cf0_1, true) :: (cf0_2, true) :: (cf0_3, true) :: (cf0_4, true) :: (cf0_5, true) :: pc) :=
  (((((h.cons (eqTrue (addC (clear_3 e 7)))).cons (eqTrue (addC (clear_3 e 13)))).cons (eqTrue (top_bit e))).cons (eqTrue (clear_1 e 32))).cons (eqTrue (clear_3 e 7))).cons (eqTrue (clear_3 e 13))
/-- A bit of a number: 0 or 1; above 63 it is 0. -/
theorem bit_of (e : Nat → Int) (i : Nat) : (N.den e (.ar .and .u64 (.ar .shr .u64 (.var i 0 18446744073709551615) v33) (.lit 1)) = 0 ∨ N.den e (.ar .and .u64 (.ar .shr .u64 (.var i 0 18446744073709551615) v33) (.lit 1)) = 1) ∧
    (¬ N.den e v33 < N.den e (.lit 64) → N.den e (.ar .and .u64 (.ar .shr .u64 (.var i 0 18446744073709551615) v33) (.lit 1)) = 0) := by
  obtain ⟨x, hx, hx'⟩ := var_nat e i
  obtain ⟨y, hy, hy'⟩ := var_u8 e 33
  simp only [N.den] at hx hy ⊢
  rw [hx, hy]
  have hs : arF .shr .u64 x y = ((x / 2 ^ (min y 64) : Nat) : Int) := by
    simp only [arF, kindBits, Int.toNat_natCast]
    show ((x : Int)).fdiv ((2 ^ (min y 64) : Nat) : Int) = _
    rw [Int.fdiv_eq_ediv_of_nonneg _ (Int.natCast_nonneg _)]
    rfl
  have hq : x / 2 ^ (min y 64) < 18446744073709551616 := Nat.lt_of_le_of_lt (Nat.div_le_self _ _) hx'
  rw [hs, show (1 : Int) = ((1 : Nat) : Int) from rfl, arF_and hq (by decide)]
  have h1 : x / 2 ^ (min y 64) &&& 1 = x / 2 ^ (min y 64) % 2 := Nat.and_two_pow_sub_one_eq_mod _ 1
  rw [h1]
  refine ⟨by omega, fun h => ?_⟩
  have : min y 64 = 64 := by omega
  rw [this]
  have h0 : x / 2 ^ 64 = 0 := Nat.div_eq_of_lt hx'
  rw [h0]; rfl
theorem mode0_ok (e : Nat → Int) : Holds e case0 ∨ Holds e case1 ∨ Holds e case2 ∨ Holds e case3 ∨ Holds e case4 ∨ Holds e case5 := by
  have b5 := bit_of e 5
  have b6 := bit_of e 6
  by_cases h34 : N.den e v34 = 0
  · have ht : (false = true ↔ N.den e v34 ≠ 0) := by simp [h34]
    by_cases hc : N.den e v33 < N.den e (.lit 64)
    · rcases b5.1 with h5 | h5
      · exact .inr (.inr (.inr (.inr (.inl (six (((((none_ok e).cons (eqFalse (by rw [h5]; simp [N.den]))).cons (eqTrue h5)).cons (tl hc)).cons (ht)))))))
      · exact .inr (.inr (.inr (.inr (.inr (six (((((none_ok e).cons (eqTrue h5)).cons (eqFalse (by rw [h5]; simp [N.den]))).cons (tl hc)).cons (ht)))))))
    · exact .inr (.inl (six ((((none_ok e).cons (fl hc)).cons (eqTrue (b5.2 hc))).cons (ht))))
  · have ht : (true = true ↔ N.den e v34 ≠ 0) := by simp [h34]
    by_cases hc : N.den e v33 < N.den e (.lit 64)
    · rcases b6.1 with h6 | h6
      · exact .inr (.inr (.inl (six (((((none_ok e).cons (eqFalse (by rw [h6]; simp [N.den]))).cons (eqTrue h6)).cons (tl hc)).cons (ht)))))
      · exact .inr (.inr (.inr (.inl (six (((((none_ok e).cons (eqTrue h6)).cons (eqFalse (by rw [h6]; simp [N.den]))).cons (tl hc)).cons (ht))))))
    · exact .inl (six ((((none_ok e).cons (fl hc)).cons (eqTrue (b6.2 hc))).cons (ht)))
theorem mode1_ok (e : Nat → Int) : Holds e case6 ∨ Holds e case7 ∨ Holds e case8 ∨ Holds e case9 ∨ Holds e case10 ∨ Holds e case11 := by
  have b5 := bit_of e 5
  have b6 := bit_of e 6
  by_cases h34 : N.den e v34 = 0
  · have ht : (false = true ↔ N.den e v34 ≠ 0) := by simp [h34]
    by_cases hc : N.den e v33 < N.den e (.lit 64)
    · rcases b5.1 with h5 | h5
      · exact .inr (.inr (.inr (.inr (.inl (six (((((none_ok e).cons (eqFalse (by rw [h5]; simp [N.den]))).cons (eqTrue h5)).cons (tl hc)).cons (ht)))))))
      · exact .inr (.inr (.inr (.inr (.inr (six (((((none_ok e).cons (eqTrue h5)).cons (eqFalse (by rw [h5]; simp [N.den]))).cons (tl hc)).cons (ht)))))))
    · exact .inr (.inl (six ((((none_ok e).cons (fl hc)).cons (eqTrue (b5.2 hc))).cons (ht))))
  · have ht : (true = true ↔ N.den e v34 ≠ 0) := by simp [h34]
    by_cases hc : N.den e v33 < N.den e (.lit 64)
    · rcases b6.1 with h6 | h6
      · exact .inr (.inr (.inl (six (((((none_ok e).cons (eqFalse (by rw [h6]; simp [N.den]))).cons (eqTrue h6)).cons (tl hc)).cons (ht)))))
      · exact .inr (.inr (.inr (.inl (six (((((none_ok e).cons (eqTrue h6)).cons (eqFalse (by rw [h6]; simp [N.den]))).cons (tl hc)).cons (ht))))))
    · exact .inl (six ((((none_ok e).cons (fl hc)).cons (eqTrue (b6.2 hc))).cons (ht)))
theorem mode2_ok (e : Nat → Int) (hm : ¬ N.den e v31 < N.den e (.lit 2)) : Holds e case12 ∨ Holds e case13 ∨ Holds e case14 ∨ Holds e case15 ∨ Holds e case16 ∨ Holds e case17 := by
  have b5 := bit_of e 5
  have b6 := bit_of e 6
  by_cases h34 : N.den e v34 = 0
  · have ht : (false = true ↔ N.den e v34 ≠ 0) := by simp [h34]
    by_cases hc : N.den e v33 < N.den e (.lit 64)
    · rcases b5.1 with h5 | h5
      · exact .inr (.inr (.inr (.inr (.inl (six ((((((none_ok e).cons (eqFalse (by rw [h5]; simp [N.den]))).cons (eqTrue h5)).cons (tl hc)).cons (ht)).cons (fl hm)))))))
      · exact .inr (.inr (.inr (.inr (.inr (six ((((((none_ok e).cons (eqTrue h5)).cons (eqFalse (by rw [h5]; simp [N.den]))).cons (tl hc)).cons (ht)).cons (fl hm)))))))
    · exact .inr (.inl (six (((((none_ok e).cons (fl hc)).cons (eqTrue (b5.2 hc))).cons (ht)).cons (fl hm))))
  · have ht : (true = true ↔ N.den e v34 ≠ 0) := by simp [h34]
    by_cases hc : N.den e v33 < N.den e (.lit 64)
    · rcases b6.1 with h6 | h6
      · exact .inr (.inr (.inl (six ((((((none_ok e).cons (eqFalse (by rw [h6]; simp [N.den]))).cons (eqTrue h6)).cons (tl hc)).cons (ht)).cons (fl hm)))))
      · exact .inr (.inr (.inr (.inl (six ((((((none_ok e).cons (eqTrue h6)).cons (eqFalse (by rw [h6]; simp [N.den]))).cons (tl hc)).cons (ht)).cons (fl hm))))))
    · exact .inl (six (((((none_ok e).cons (fl hc)).cons (eqTrue (b6.2 hc))).cons (ht)).cons (fl hm)))
end Go.Proofs.Ythlmpiaijiegjaa.Sx
