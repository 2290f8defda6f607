/- TlbLeads: what the reader is told ahead is so. -/
import Derived.Test.YtacamlbnnaenpaaLTlbLeads
namespace Go.Proofs.Ytacamlbnnaenpaa.Sx
open Go

theorem var_nat (e : Nat → Int) (i : Nat) : ∃ n : Nat, N.den e (.var i 0 18446744073709551615) = (n : Int) ∧ n < 18446744073709551616 := by
  have h : 0 ≤ max 0 (min 18446744073709551615 (e i)) ∧ max 0 (min 18446744073709551615 (e i)) ≤ 18446744073709551615 := by omega
  refine ⟨(max 0 (min 18446744073709551615 (e i))).toNat, ?_, ?_⟩
  · simp only [N.den]; omega
  · omega
theorem wrap_u64 (x : Int) : wrapF .u64 x = x % 18446744073709551616 := by
  have := lowOf_eq .u64 x
  simp only [span] at this
  simpa [wrapF, ofLow, isSigned] using this
theorem sub_u64 (x y : Int) : arF .sub .u64 x y = (x - y) % 18446744073709551616 := wrap_u64 _
theorem mul_u64 (x : Nat) : arF .mul .u64 x 4096 = ((x * 4096) % 18446744073709551616 : Nat) := by
  have := wrap_u64 ((x : Int) * 4096); simp only [arF]; omega
theorem shl_12 (x : Nat) : arF .shl .u64 x 12 = ((x * 4096) % 18446744073709551616 : Nat) := by
  have := wrap_u64 ((x : Int) * 4096); simp only [arF]
  rw [show (Int.ofNat (2 ^ (min (12 : Int).toNat (kindBits .u64)))) = 4096 from rfl]; omega
theorem low_nat (x : Nat) (hx : x < 18446744073709551616) : lowOf .u64 (x : Int) = x := Nat.mod_eq_of_lt hx
theorem rem_u64 (x y : Nat) : arF .rem .u64 x y = (x % y : Nat) := by
  simp only [arF]; exact (Int.ofNat_tmod x y).symm ▸ rfl
theorem or_k (k a b : Nat) (ha : a % 2 ^ k = 0) (hb : b < 2 ^ k) (h1 : a < 18446744073709551616) (h2 : b < 18446744073709551616) : arF .or .u64 a b = (a + b : Nat) := by
  simp only [arF, ofLow, isSigned, low_nat a h1, low_nat b h2]
  obtain ⟨q, rfl⟩ : ∃ q, a = 2 ^ k * q := ⟨a / 2 ^ k, by rw [Nat.mul_comm, Nat.div_mul_cancel (Nat.dvd_of_mod_eq_zero ha)]⟩
  have := Nat.two_pow_add_eq_or_of_lt hb q
  rw [this]; rfl
theorem and_add_or (m n : Nat) : (m &&& n) + (m ||| n) = m + n := by
  induction m using Nat.strongRecOn generalizing n with
  | _ m ih =>
    rcases Nat.eq_zero_or_pos m with h0 | h0
    · subst h0; simp
    · have := ih (m / 2) (by omega) (n / 2)
      have a1 : (m &&& n) / 2 = m / 2 &&& n / 2 := Nat.and_div_two
      have a2 : (m ||| n) / 2 = m / 2 ||| n / 2 := Nat.or_div_two
      have b1 : (m &&& n) % 2 + (m ||| n) % 2 = m % 2 + n % 2 := by
        have c1 : (m &&& n) % 2 = (m % 2) &&& (n % 2) := by
          have := @Nat.and_mod_two_pow m n 1; simpa using this
        have c2 : (m ||| n) % 2 = (m % 2) ||| (n % 2) := by
          have := @Nat.or_mod_two_pow m n 1; simpa using this
        rw [c1, c2]
        rcases Nat.mod_two_eq_zero_or_one m with h | h <;> rcases Nat.mod_two_eq_zero_or_one n with h' | h' <;> rw [h, h'] <;> rfl
      omega
theorem eqTrue {e : Nat → Int} {a b : N} (h : a.den e = b.den e) : (true = true ↔ (N.eq a b).den e ≠ 0) := by
  simp only [N.den, true_iff, bI_ne, ieq_iff, h]
theorem tl {a b : N} {e : Nat → Int} (h : a.den e < b.den e) : (true = true ↔ (N.lt a b).den e ≠ 0) := by
  simp only [N.den, true_iff, bI_ne, ilt_iff]; exact h
theorem fl {a b : N} {e : Nat → Int} (h : ¬ a.den e < b.den e) : (false = true ↔ (N.lt a b).den e ≠ 0) := by
  simp only [N.den, Bool.false_eq_true, false_iff, bI_ne, ilt_iff, ne_eq]; exact fun k => h (by simpa using k)
theorem none_ok (e : Nat → Int) : Holds e [] := fun _ _ h => by cases h
theorem shr_10 (x : Nat) : arF .shr .u64 x 10 = (x / 1024 : Nat) := by
  simp only [arF]
  rw [show (Int.ofNat (2 ^ (min (10 : Int).toNat (kindBits .u64)))) = 1024 from rfl, Int.fdiv_eq_ediv_of_nonneg _ (by decide)]
  omega
theorem shr_12 (x : Nat) : arF .shr .u64 x 12 = (x / 4096 : Nat) := by
  simp only [arF]
  rw [show (Int.ofNat (2 ^ (min (12 : Int).toNat (kindBits .u64)))) = 4096 from rfl, Int.fdiv_eq_ediv_of_nonneg _ (by decide)]
  omega
theorem shr_56 (x : Nat) : arF .shr .u64 x 56 = (x / 72057594037927936 : Nat) := by
  simp only [arF]
  rw [show (Int.ofNat (2 ^ (min (56 : Int).toNat (kindBits .u64)))) = 72057594037927936 from rfl, Int.fdiv_eq_ediv_of_nonneg _ (by decide)]
  omega
theorem and_0 (x : Nat) : arF .and .u64 x 0 = (x % 1 : Nat) := by
  simp only [arF, ofLow, isSigned]
  have : Nat.land (lowOf .u64 x) (lowOf .u64 0) = x % 18446744073709551616 % 1 := Nat.and_two_pow_sub_one_eq_mod (x % 18446744073709551616) 0
  rw [this]
  have h : x % 18446744073709551616 % 1 = x % 1 := by omega
  rw [h]; rfl
theorem and_511 (x : Nat) : arF .and .u64 x 511 = (x % 512 : Nat) := by
  simp only [arF, ofLow, isSigned]
  have : Nat.land (lowOf .u64 x) (lowOf .u64 511) = x % 18446744073709551616 % 512 := Nat.and_two_pow_sub_one_eq_mod (x % 18446744073709551616) 9
  rw [this]
  have h : x % 18446744073709551616 % 512 = x % 512 := by omega
  rw [h]; rfl
theorem and_262143 (x : Nat) : arF .and .u64 x 262143 = (x % 262144 : Nat) := by
  simp only [arF, ofLow, isSigned]
  have : Nat.land (lowOf .u64 x) (lowOf .u64 262143) = x % 18446744073709551616 % 262144 := Nat.and_two_pow_sub_one_eq_mod (x % 18446744073709551616) 18
  rw [this]
  have h : x % 18446744073709551616 % 262144 = x % 262144 := by omega
  rw [h]; rfl
theorem and_4095 (x : Nat) : arF .and .u64 x 4095 = (x % 4096 : Nat) := by
  simp only [arF, ofLow, isSigned]
  have : Nat.land (lowOf .u64 x) (lowOf .u64 4095) = x % 18446744073709551616 % 4096 := Nat.and_two_pow_sub_one_eq_mod (x % 18446744073709551616) 12
  rw [this]
  have h : x % 18446744073709551616 % 4096 = x % 4096 := by omega
  rw [h]; rfl
theorem and_17592186044415 (x : Nat) : arF .and .u64 x 17592186044415 = (x % 17592186044416 : Nat) := by
  simp only [arF, ofLow, isSigned]
  have : Nat.land (lowOf .u64 x) (lowOf .u64 17592186044415) = x % 18446744073709551616 % 17592186044416 := Nat.and_two_pow_sub_one_eq_mod (x % 18446744073709551616) 44
  rw [this]
  have h : x % 18446744073709551616 % 17592186044416 = x % 17592186044416 := by omega
  rw [h]; rfl
theorem andNot_0 (x : Nat) (hx : x < 18446744073709551616) : arF .andNot .u64 x 0 = (x - x % 1 : Nat) := by
  have h1 : Nat.land (lowOf .u64 x) (span .u64 - 1 - lowOf .u64 0) = x &&& 18446744073709551615 := by rw [low_nat x hx]; rfl
  simp only [arF, ofLow, isSigned, h1]
  have h2 : x &&& 0 = x % 1 := Nat.and_two_pow_sub_one_eq_mod x 0
  have h3 : x &&& 18446744073709551615 = x := by
    have := Nat.and_two_pow_sub_one_eq_mod x 64
    rw [Nat.mod_eq_of_lt hx] at this; exact this
  have h4 := and_add_or (x &&& 0) (x &&& 18446744073709551615)
  have h5 : (x &&& 0) &&& (x &&& 18446744073709551615) = 0 := by
    rw [Nat.and_comm x 0, Nat.and_assoc, ← Nat.and_assoc x x, Nat.and_self, Nat.and_comm x 18446744073709551615, ← Nat.and_assoc, show (0 : Nat) &&& 18446744073709551615 = 0 from rfl, Nat.zero_and]
  have h6 : (x &&& 0) ||| (x &&& 18446744073709551615) = x := by
    rw [← Nat.and_or_distrib_left, show (0 : Nat) ||| 18446744073709551615 = 18446744073709551615 from rfl, h3]
  rw [h5, h6, h2] at h4
  have : x &&& 18446744073709551615 = x - x % 1 := by omega
  rw [this]; rfl
theorem place_0 (p x : Nat) (hp : p < 17592186044416) (hx : x < 18446744073709551616) :
    arF .or .u64 (arF .shl .u64 (arF .or .u64 (arF .andNot .u64 p 0) (arF .and .u64 (arF .shr .u64 x 12) 0)) 12) (arF .and .u64 x 4095) = (((p - p % 1 + x / 4096 % 1) * 4096 + x % 4096 : Nat) : Int) := by
  rw [andNot_0 p (by omega), shr_12, and_0, and_4095, or_k 0 _ _ (by omega) (by omega) (by omega) (by omega), shl_12, or_k 12 _ _ (by omega) (by omega) (by omega) (by omega)]
  congr 2
  omega
theorem andNot_511 (x : Nat) (hx : x < 18446744073709551616) : arF .andNot .u64 x 511 = (x - x % 512 : Nat) := by
  have h1 : Nat.land (lowOf .u64 x) (span .u64 - 1 - lowOf .u64 511) = x &&& 18446744073709551104 := by rw [low_nat x hx]; rfl
  simp only [arF, ofLow, isSigned, h1]
  have h2 : x &&& 511 = x % 512 := Nat.and_two_pow_sub_one_eq_mod x 9
  have h3 : x &&& 18446744073709551615 = x := by
    have := Nat.and_two_pow_sub_one_eq_mod x 64
    rw [Nat.mod_eq_of_lt hx] at this; exact this
  have h4 := and_add_or (x &&& 511) (x &&& 18446744073709551104)
  have h5 : (x &&& 511) &&& (x &&& 18446744073709551104) = 0 := by
    rw [Nat.and_comm x 511, Nat.and_assoc, ← Nat.and_assoc x x, Nat.and_self, Nat.and_comm x 18446744073709551104, ← Nat.and_assoc, show (511 : Nat) &&& 18446744073709551104 = 0 from rfl, Nat.zero_and]
  have h6 : (x &&& 511) ||| (x &&& 18446744073709551104) = x := by
    rw [← Nat.and_or_distrib_left, show (511 : Nat) ||| 18446744073709551104 = 18446744073709551615 from rfl, h3]
  rw [h5, h6, h2] at h4
  have : x &&& 18446744073709551104 = x - x % 512 := by omega
  rw [this]; rfl
theorem place_511 (p x : Nat) (hp : p < 17592186044416) (hx : x < 18446744073709551616) :
    arF .or .u64 (arF .shl .u64 (arF .or .u64 (arF .andNot .u64 p 511) (arF .and .u64 (arF .shr .u64 x 12) 511)) 12) (arF .and .u64 x 4095) = (((p - p % 512 + x / 4096 % 512) * 4096 + x % 4096 : Nat) : Int) := by
  rw [andNot_511 p (by omega), shr_12, and_511, and_4095, or_k 9 _ _ (by omega) (by omega) (by omega) (by omega), shl_12, or_k 12 _ _ (by omega) (by omega) (by omega) (by omega)]
  congr 2
  omega
theorem andNot_262143 (x : Nat) (hx : x < 18446744073709551616) : arF .andNot .u64 x 262143 = (x - x % 262144 : Nat) := by
  have h1 : Nat.land (lowOf .u64 x) (span .u64 - 1 - lowOf .u64 262143) = x &&& 18446744073709289472 := by rw [low_nat x hx]; rfl
  simp only [arF, ofLow, isSigned, h1]
  have h2 : x &&& 262143 = x % 262144 := Nat.and_two_pow_sub_one_eq_mod x 18
  have h3 : x &&& 18446744073709551615 = x := by
    have := Nat.and_two_pow_sub_one_eq_mod x 64
    rw [Nat.mod_eq_of_lt hx] at this; exact this
  have h4 := and_add_or (x &&& 262143) (x &&& 18446744073709289472)
  have h5 : (x &&& 262143) &&& (x &&& 18446744073709289472) = 0 := by
    rw [Nat.and_comm x 262143, Nat.and_assoc, ← Nat.and_assoc x x, Nat.and_self, Nat.and_comm x 18446744073709289472, ← Nat.and_assoc, show (262143 : Nat) &&& 18446744073709289472 = 0 from rfl, Nat.zero_and]
  have h6 : (x &&& 262143) ||| (x &&& 18446744073709289472) = x := by
    rw [← Nat.and_or_distrib_left, show (262143 : Nat) ||| 18446744073709289472 = 18446744073709551615 from rfl, h3]
  rw [h5, h6, h2] at h4
  have : x &&& 18446744073709289472 = x - x % 262144 := by omega
  rw [this]; rfl
theorem place_262143 (p x : Nat) (hp : p < 17592186044416) (hx : x < 18446744073709551616) :
    arF .or .u64 (arF .shl .u64 (arF .or .u64 (arF .andNot .u64 p 262143) (arF .and .u64 (arF .shr .u64 x 12) 262143)) 12) (arF .and .u64 x 4095) = (((p - p % 262144 + x / 4096 % 262144) * 4096 + x % 4096 : Nat) : Int) := by
  rw [andNot_262143 p (by omega), shr_12, and_262143, and_4095, or_k 18 _ _ (by omega) (by omega) (by omega) (by omega), shl_12, or_k 12 _ _ (by omega) (by omega) (by omega) (by omega)]
  congr 2
  omega
theorem cf0_0_ok (e : Nat → Int) : (true = true ↔ cf0_0.den e ≠ 0) := by
  refine eqTrue ?_
  obtain ⟨a, ha, ha'⟩ := var_nat e 2
  obtain ⟨x, hx, hx'⟩ := var_nat e 8
  obtain ⟨y, hy, hy'⟩ := var_nat e 9
  simp only [N.den] at ha hx hy ⊢
  simp only [ha, hx, hy]
  rw [shr_10, and_17592186044415]
  have hp : a / 1024 % 17592186044416 < 17592186044416 := Nat.mod_lt _ (by decide)
  generalize a / 1024 % 17592186044416 = p at *
  simp only [place_0 p x hp hx', place_0 p y hp hy', mul_u64, shr_56]
  try rw [show (4096 : Int) = ((4096 : Nat) : Int) from rfl]
  try simp only [rem_u64, sub_u64]
  congr 1
  omega
theorem cf0_1_ok (e : Nat → Int) : (true = true ↔ cf0_1.den e ≠ 0) := by
  refine eqTrue ?_
  obtain ⟨a, ha, ha'⟩ := var_nat e 2
  obtain ⟨x, hx, hx'⟩ := var_nat e 8
  obtain ⟨y, hy, hy'⟩ := var_nat e 9
  simp only [N.den] at ha hx hy ⊢
  simp only [ha, hx, hy]
  rw [shr_10, and_17592186044415]
  have hp : a / 1024 % 17592186044416 < 17592186044416 := Nat.mod_lt _ (by decide)
  generalize a / 1024 % 17592186044416 = p at *
  simp only [place_0 p x hp hx', place_0 p y hp hy', mul_u64, shr_56]
  try rw [show (4096 : Int) = ((4096 : Nat) : Int) from rfl]
  try simp only [rem_u64, sub_u64]
  skip
  omega
theorem cf0_2_ok (e : Nat → Int) : (true = true ↔ cf0_2.den e ≠ 0) := by
  refine eqTrue ?_
  obtain ⟨a, ha, ha'⟩ := var_nat e 2
  obtain ⟨x, hx, hx'⟩ := var_nat e 8
  obtain ⟨y, hy, hy'⟩ := var_nat e 9
  simp only [N.den] at ha hx hy ⊢
  simp only [ha, hx, hy]
  rw [shr_10, and_17592186044415]
  have hp : a / 1024 % 17592186044416 < 17592186044416 := Nat.mod_lt _ (by decide)
  generalize a / 1024 % 17592186044416 = p at *
  simp only [place_0 p x hp hx', place_0 p y hp hy', mul_u64, shr_56]
  try rw [show (4096 : Int) = ((4096 : Nat) : Int) from rfl]
  try simp only [rem_u64, sub_u64]
  skip
  omega
theorem cf0_3_ok (e : Nat → Int) : (true = true ↔ cf0_3.den e ≠ 0) := by
  refine eqTrue ?_
  obtain ⟨a, ha, ha'⟩ := var_nat e 2
  obtain ⟨x, hx, hx'⟩ := var_nat e 8
  obtain ⟨y, hy, hy'⟩ := var_nat e 9
  simp only [N.den] at ha hx hy ⊢
  simp only [ha, hx, hy]
  rw [shr_10, and_17592186044415]
  have hp : a / 1024 % 17592186044416 < 17592186044416 := Nat.mod_lt _ (by decide)
  generalize a / 1024 % 17592186044416 = p at *
  simp only [place_0 p x hp hx', place_0 p y hp hy', mul_u64, shr_56]
  try rw [show (4096 : Int) = ((4096 : Nat) : Int) from rfl]
  try simp only [rem_u64, sub_u64]
  skip
  omega
theorem cf1_0_ok (e : Nat → Int) : (true = true ↔ cf1_0.den e ≠ 0) := by
  refine eqTrue ?_
  obtain ⟨a, ha, ha'⟩ := var_nat e 2
  obtain ⟨x, hx, hx'⟩ := var_nat e 8
  obtain ⟨y, hy, hy'⟩ := var_nat e 9
  simp only [N.den] at ha hx hy ⊢
  simp only [ha, hx, hy]
  rw [shr_10, and_17592186044415]
  have hp : a / 1024 % 17592186044416 < 17592186044416 := Nat.mod_lt _ (by decide)
  generalize a / 1024 % 17592186044416 = p at *
  simp only [place_511 p x hp hx', place_511 p y hp hy', mul_u64, shr_56]
  try rw [show (2097152 : Int) = ((2097152 : Nat) : Int) from rfl]
  try simp only [rem_u64, sub_u64]
  congr 1
  omega
theorem cf1_1_ok (e : Nat → Int) : (true = true ↔ cf1_1.den e ≠ 0) := by
  refine eqTrue ?_
  obtain ⟨a, ha, ha'⟩ := var_nat e 2
  obtain ⟨x, hx, hx'⟩ := var_nat e 8
  obtain ⟨y, hy, hy'⟩ := var_nat e 9
  simp only [N.den] at ha hx hy ⊢
  simp only [ha, hx, hy]
  rw [shr_10, and_17592186044415]
  have hp : a / 1024 % 17592186044416 < 17592186044416 := Nat.mod_lt _ (by decide)
  generalize a / 1024 % 17592186044416 = p at *
  simp only [place_511 p x hp hx', place_511 p y hp hy', mul_u64, shr_56]
  try rw [show (2097152 : Int) = ((2097152 : Nat) : Int) from rfl]
  try simp only [rem_u64, sub_u64]
  skip
  omega
theorem cf1_2_ok (e : Nat → Int) : (true = true ↔ cf1_2.den e ≠ 0) := by
  refine eqTrue ?_
  obtain ⟨a, ha, ha'⟩ := var_nat e 2
  obtain ⟨x, hx, hx'⟩ := var_nat e 8
  obtain ⟨y, hy, hy'⟩ := var_nat e 9
  simp only [N.den] at ha hx hy ⊢
  simp only [ha, hx, hy]
  rw [shr_10, and_17592186044415]
  have hp : a / 1024 % 17592186044416 < 17592186044416 := Nat.mod_lt _ (by decide)
  generalize a / 1024 % 17592186044416 = p at *
  simp only [place_511 p x hp hx', place_511 p y hp hy', mul_u64, shr_56]
  try rw [show (2097152 : Int) = ((2097152 : Nat) : Int) from rfl]
  try simp only [rem_u64, sub_u64]
  skip
  omega
theorem cf1_3_ok (e : Nat → Int) : (true = true ↔ cf1_3.den e ≠ 0) := by
  refine eqTrue ?_
  obtain ⟨a, ha, ha'⟩ := var_nat e 2
  obtain ⟨x, hx, hx'⟩ := var_nat e 8
  obtain ⟨y, hy, hy'⟩ := var_nat e 9
  simp only [N.den] at ha hx hy ⊢
  simp only [ha, hx, hy]
  rw [shr_10, and_17592186044415]
  have hp : a / 1024 % 17592186044416 < 17592186044416 := Nat.mod_lt _ (by decide)
  generalize a / 1024 % 17592186044416 = p at *
  simp only [place_511 p x hp hx', place_511 p y hp hy', mul_u64, shr_56]
  try rw [show (2097152 : Int) = ((2097152 : Nat) : Int) from rfl]
  try simp only [rem_u64, sub_u64]
  skip
  omega
theorem cf2_0_ok (e : Nat → Int) : (true = true ↔ cf2_0.den e ≠ 0) := by
  refine eqTrue ?_
  obtain ⟨a, ha, ha'⟩ := var_nat e 2
  obtain ⟨x, hx, hx'⟩ := var_nat e 8
  obtain ⟨y, hy, hy'⟩ := var_nat e 9
  simp only [N.den] at ha hx hy ⊢
  simp only [ha, hx, hy]
  rw [shr_10, and_17592186044415]
  have hp : a / 1024 % 17592186044416 < 17592186044416 := Nat.mod_lt _ (by decide)
  generalize a / 1024 % 17592186044416 = p at *
  simp only [place_262143 p x hp hx', place_262143 p y hp hy', mul_u64, shr_56]
  try rw [show (1073741824 : Int) = ((1073741824 : Nat) : Int) from rfl]
  try simp only [rem_u64, sub_u64]
  congr 1
  omega
theorem cf2_1_ok (e : Nat → Int) : (true = true ↔ cf2_1.den e ≠ 0) := by
  refine eqTrue ?_
  obtain ⟨a, ha, ha'⟩ := var_nat e 2
  obtain ⟨x, hx, hx'⟩ := var_nat e 8
  obtain ⟨y, hy, hy'⟩ := var_nat e 9
  simp only [N.den] at ha hx hy ⊢
  simp only [ha, hx, hy]
  rw [shr_10, and_17592186044415]
  have hp : a / 1024 % 17592186044416 < 17592186044416 := Nat.mod_lt _ (by decide)
  generalize a / 1024 % 17592186044416 = p at *
  simp only [place_262143 p x hp hx', place_262143 p y hp hy', mul_u64, shr_56]
  try rw [show (1073741824 : Int) = ((1073741824 : Nat) : Int) from rfl]
  try simp only [rem_u64, sub_u64]
  skip
  omega
theorem cf2_2_ok (e : Nat → Int) : (true = true ↔ cf2_2.den e ≠ 0) := by
  refine eqTrue ?_
  obtain ⟨a, ha, ha'⟩ := var_nat e 2
  obtain ⟨x, hx, hx'⟩ := var_nat e 8
  obtain ⟨y, hy, hy'⟩ := var_nat e 9
  simp only [N.den] at ha hx hy ⊢
  simp only [ha, hx, hy]
  rw [shr_10, and_17592186044415]
  have hp : a / 1024 % 17592186044416 < 17592186044416 := Nat.mod_lt _ (by decide)
  generalize a / 1024 % 17592186044416 = p at *
  simp only [place_262143 p x hp hx', place_262143 p y hp hy', mul_u64, shr_56]
  try rw [show (1073741824 : Int) = ((1073741824 : Nat) : Int) from rfl]
  try simp only [rem_u64, sub_u64]
  skip
  omega
theorem cf2_3_ok (e : Nat → Int) : (true = true ↔ cf2_3.den e ≠ 0) := by
  refine eqTrue ?_
  obtain ⟨a, ha, ha'⟩ := var_nat e 2
  obtain ⟨x, hx, hx'⟩ := var_nat e 8
  obtain ⟨y, hy, hy'⟩ := var_nat e 9
  simp only [N.den] at ha hx hy ⊢
  simp only [ha, hx, hy]
  rw [shr_10, and_17592186044415]
  have hp : a / 1024 % 17592186044416 < 17592186044416 := Nat.mod_lt _ (by decide)
  generalize a / 1024 % 17592186044416 = p at *
  simp only [place_262143 p x hp hx', place_262143 p y hp hy', mul_u64, shr_56]
  try rw [show (1073741824 : Int) = ((1073741824 : Nat) : Int) from rfl]
  try simp only [rem_u64, sub_u64]
  skip
  omega
theorem cases_ok (e : Nat → Int) : Holds e case0 ∧ Holds e case1 ∧ Holds e case2 :=
  ⟨((((none_ok e).cons (cf0_3_ok e)).cons (cf0_2_ok e)).cons (cf0_1_ok e)).cons (cf0_0_ok e), ((((none_ok e).cons (cf1_3_ok e)).cons (cf1_2_ok e)).cons (cf1_1_ok e)).cons (cf1_0_ok e), ((((none_ok e).cons (cf2_3_ok e)).cons (cf2_2_ok e)).cons (cf2_1_ok e)).cons (cf2_0_ok e)⟩
theorem case3_ok (e : Nat → Int) (h : N.den e v3 < 0) : Holds e case3 := (none_ok e).cons (tl h)
theorem case4_ok (e : Nat → Int) (h : 3 ≤ N.den e v3) : Holds e case4 := (none_ok e).cons (fl (by simp only [N.den] at h ⊢; omega))
end Go.Proofs.Ytacamlbnnaenpaa.Sx
