/- TlbPlaces: what the reader is told ahead is so. -/
import Derived.Test.YtacamlbnnaenpaaLTlbPlaces
namespace Go.Proofs.Ytacamlbnnaenpaa.Sx
open Go

theorem var_nat (e : Nat → Int) (i : Nat) : ∃ n : Nat, N.den e (.var i 0 18446744073709551615) = (n : Int) ∧ n < 18446744073709551616 := by
  have h : 0 ≤ max 0 (min 18446744073709551615 (e i)) ∧ max 0 (min 18446744073709551615 (e i)) ≤ 18446744073709551615 := by omega
  refine ⟨(max 0 (min 18446744073709551615 (e i))).toNat, ?_, ?_⟩
  · simp only [N.den]; omega
  · omega
theorem wrap_u64 (x : Int) : wrapF .u64 x = x % 18446744073709551616 := by
  have := lowOf_eq .u64 x
  simp only [span] at this
  simpa [wrapF, ofLow, isSigned] using this
theorem sub_u64 (x y : Int) : arF .sub .u64 x y = (x - y) % 18446744073709551616 := wrap_u64 _
theorem mul_u64 (x : Nat) : arF .mul .u64 x 4096 = ((x * 4096) % 18446744073709551616 : Nat) := by
  have := wrap_u64 ((x : Int) * 4096); simp only [arF]; omega
theorem shl_12 (x : Nat) : arF .shl .u64 x 12 = ((x * 4096) % 18446744073709551616 : Nat) := by
  have := wrap_u64 ((x : Int) * 4096); simp only [arF]
  rw [show (Int.ofNat (2 ^ (min (12 : Int).toNat (kindBits .u64)))) = 4096 from rfl]; omega
theorem low_nat (x : Nat) (hx : x < 18446744073709551616) : lowOf .u64 (x : Int) = x := Nat.mod_eq_of_lt hx
theorem rem_u64 (x y : Nat) : arF .rem .u64 x y = (x % y : Nat) := by
  simp only [arF]; exact (Int.ofNat_tmod x y).symm ▸ rfl
theorem or_k (k a b : Nat) (ha : a % 2 ^ k = 0) (hb : b < 2 ^ k) (h1 : a < 18446744073709551616) (h2 : b < 18446744073709551616) : arF .or .u64 a b = (a + b : Nat) := by
  simp only [arF, ofLow, isSigned, low_nat a h1, low_nat b h2]
  obtain ⟨q, rfl⟩ : ∃ q, a = 2 ^ k * q := ⟨a / 2 ^ k, by rw [Nat.mul_comm, Nat.div_mul_cancel (Nat.dvd_of_mod_eq_zero ha)]⟩
  have := Nat.two_pow_add_eq_or_of_lt hb q
  rw [this]; rfl
theorem and_add_or (m n : Nat) : (m &&& n) + (m ||| n) = m + n := by
  induction m using Nat.strongRecOn generalizing n with
  | _ m ih =>
    rcases Nat.eq_zero_or_pos m with h0 | h0
    · subst h0; simp
    · have := ih (m / 2) (by omega) (n / 2)
      have a1 : (m &&& n) / 2 = m / 2 &&& n / 2 := Nat.and_div_two
      have a2 : (m ||| n) / 2 = m / 2 ||| n / 2 := Nat.or_div_two
      have b1 : (m &&& n) % 2 + (m ||| n) % 2 = m % 2 + n % 2 := by
        have c1 : (m &&& n) % 2 = (m % 2) &&& (n % 2) := by
          have := @Nat.and_mod_two_pow m n 1; simpa using this
        have c2 : (m ||| n) % 2 = (m % 2) ||| (n % 2) := by
          have := @Nat.or_mod_two_pow m n 1; simpa using this
        rw [c1, c2]
        rcases Nat.mod_two_eq_zero_or_one m with h | h <;> rcases Nat.mod_two_eq_zero_or_one n with h' | h' <;> rw [h, h'] <;> rfl
      omega
theorem eqTrue {e : Nat → Int} {a b : N} (h : a.den e = b.den e) : (true = true ↔ (N.eq a b).den e ≠ 0) := by
  simp only [N.den, true_iff, bI_ne, ieq_iff, h]
theorem tl {a b : N} {e : Nat → Int} (h : a.den e < b.den e) : (true = true ↔ (N.lt a b).den e ≠ 0) := by
  simp only [N.den, true_iff, bI_ne, ilt_iff]; exact h
theorem fl {a b : N} {e : Nat → Int} (h : ¬ a.den e < b.den e) : (false = true ↔ (N.lt a b).den e ≠ 0) := by
  simp only [N.den, Bool.false_eq_true, false_iff, bI_ne, ilt_iff, ne_eq]; exact fun k => h (by simpa using k)
theorem none_ok (e : Nat → Int) : Holds e [] := fun _ _ h => by cases h
theorem shr_10 (x : Nat) : arF .shr .u64 x 10 = (x / 1024 : Nat) := by
  simp only [arF]
  rw [show (Int.ofNat (2 ^ (min (10 : Int).toNat (kindBits .u64)))) = 1024 from rfl, Int.fdiv_eq_ediv_of_nonneg _ (by decide)]
  omega
theorem shr_12 (x : Nat) : arF .shr .u64 x 12 = (x / 4096 : Nat) := by
  simp only [arF]
  rw [show (Int.ofNat (2 ^ (min (12 : Int).toNat (kindBits .u64)))) = 4096 from rfl, Int.fdiv_eq_ediv_of_nonneg _ (by decide)]
  omega
theorem shr_56 (x : Nat) : arF .shr .u64 x 56 = (x / 72057594037927936 : Nat) := by
  simp only [arF]
  rw [show (Int.ofNat (2 ^ (min (56 : Int).toNat (kindBits .u64)))) = 72057594037927936 from rfl, Int.fdiv_eq_ediv_of_nonneg _ (by decide)]
  omega
theorem and_0 (x : Nat) : arF .and .u64 x 0 = (x % 1 : Nat) := by
  simp only [arF, ofLow, isSigned]
  have : Nat.land (lowOf .u64 x) (lowOf .u64 0) = x % 18446744073709551616 % 1 := Nat.and_two_pow_sub_one_eq_mod (x % 18446744073709551616) 0
  rw [this]
  have h : x % 18446744073709551616 % 1 = x % 1 := by omega
  rw [h]; rfl
theorem and_511 (x : Nat) : arF .and .u64 x 511 = (x % 512 : Nat) := by
  simp only [arF, ofLow, isSigned]
  have : Nat.land (lowOf .u64 x) (lowOf .u64 511) = x % 18446744073709551616 % 512 := Nat.and_two_pow_sub_one_eq_mod (x % 18446744073709551616) 9
  rw [this]
  have h : x % 18446744073709551616 % 512 = x % 512 := by omega
  rw [h]; rfl
theorem and_262143 (x : Nat) : arF .and .u64 x 262143 = (x % 262144 : Nat) := by
  simp only [arF, ofLow, isSigned]
  have : Nat.land (lowOf .u64 x) (lowOf .u64 262143) = x % 18446744073709551616 % 262144 := Nat.and_two_pow_sub_one_eq_mod (x % 18446744073709551616) 18
  rw [this]
  have h : x % 18446744073709551616 % 262144 = x % 262144 := by omega
  rw [h]; rfl
theorem and_4095 (x : Nat) : arF .and .u64 x 4095 = (x % 4096 : Nat) := by
  simp only [arF, ofLow, isSigned]
  have : Nat.land (lowOf .u64 x) (lowOf .u64 4095) = x % 18446744073709551616 % 4096 := Nat.and_two_pow_sub_one_eq_mod (x % 18446744073709551616) 12
  rw [this]
  have h : x % 18446744073709551616 % 4096 = x % 4096 := by omega
  rw [h]; rfl
theorem and_17592186044415 (x : Nat) : arF .and .u64 x 17592186044415 = (x % 17592186044416 : Nat) := by
  simp only [arF, ofLow, isSigned]
  have : Nat.land (lowOf .u64 x) (lowOf .u64 17592186044415) = x % 18446744073709551616 % 17592186044416 := Nat.and_two_pow_sub_one_eq_mod (x % 18446744073709551616) 44
  rw [this]
  have h : x % 18446744073709551616 % 17592186044416 = x % 17592186044416 := by omega
  rw [h]; rfl
theorem andNot_0 (x : Nat) (hx : x < 18446744073709551616) : arF .andNot .u64 x 0 = (x - x % 1 : Nat) := by
  have h1 : Nat.land (lowOf .u64 x) (span .u64 - 1 - lowOf .u64 0) = x &&& 18446744073709551615 := by rw [low_nat x hx]; rfl
  simp only [arF, ofLow, isSigned, h1]
  have h2 : x &&& 0 = x % 1 := Nat.and_two_pow_sub_one_eq_mod x 0
  have h3 : x &&& 18446744073709551615 = x := by
    have := Nat.and_two_pow_sub_one_eq_mod x 64
    rw [Nat.mod_eq_of_lt hx] at this; exact this
  have h4 := and_add_or (x &&& 0) (x &&& 18446744073709551615)
  have h5 : (x &&& 0) &&& (x &&& 18446744073709551615) = 0 := by
    rw [Nat.and_comm x 0, Nat.and_assoc, ← Nat.and_assoc x x, Nat.and_self, Nat.and_comm x 18446744073709551615, ← Nat.and_assoc, show (0 : Nat) &&& 18446744073709551615 = 0 from rfl, Nat.zero_and]
  have h6 : (x &&& 0) ||| (x &&& 18446744073709551615) = x := by
    rw [← Nat.and_or_distrib_left, show (0 : Nat) ||| 18446744073709551615 = 18446744073709551615 from rfl, h3]
  rw [h5, h6, h2] at h4
  have : x &&& 18446744073709551615 = x - x % 1 := by omega
  rw [this]; rfl
theorem place_0 (p x : Nat) (hp : p < 17592186044416) (hx : x < 18446744073709551616) :
    arF .or .u64 (arF .shl .u64 (arF .or .u64 (arF .andNot .u64 p 0) (arF .and .u64 (arF .shr .u64 x 12) 0)) 12) (arF .and .u64 x 4095) = (((p - p % 1 + x / 4096 % 1) * 4096 + x % 4096 : Nat) : Int) := by
  rw [andNot_0 p (by omega), shr_12, and_0, and_4095, or_k 0 _ _ (by omega) (by omega) (by omega) (by omega), shl_12, or_k 12 _ _ (by omega) (by omega) (by omega) (by omega)]
  congr 2
  omega
theorem andNot_511 (x : Nat) (hx : x < 18446744073709551616) : arF .andNot .u64 x 511 = (x - x % 512 : Nat) := by
  have h1 : Nat.land (lowOf .u64 x) (span .u64 - 1 - lowOf .u64 511) = x &&& 18446744073709551104 := by rw [low_nat x hx]; rfl
  simp only [arF, ofLow, isSigned, h1]
  have h2 : x &&& 511 = x % 512 := Nat.and_two_pow_sub_one_eq_mod x 9
  have h3 : x &&& 18446744073709551615 = x := by
    have := Nat.and_two_pow_sub_one_eq_mod x 64
    rw [Nat.mod_eq_of_lt hx] at this; exact this
  have h4 := and_add_or (x &&& 511) (x &&& 18446744073709551104)
  have h5 : (x &&& 511) &&& (x &&& 18446744073709551104) = 0 := by
    rw [Nat.and_comm x 511, Nat.and_assoc, ← Nat.and_assoc x x, Nat.and_self, Nat.and_comm x 18446744073709551104, ← Nat.and_assoc, show (511 : Nat) &&& 18446744073709551104 = 0 from rfl, Nat.zero_and]
  have h6 : (x &&& 511) ||| (x &&& 18446744073709551104) = x := by
    rw [← Nat.and_or_distrib_left, show (511 : Nat) ||| 18446744073709551104 = 18446744073709551615 from rfl, h3]
  rw [h5, h6, h2] at h4
  have : x &&& 18446744073709551104 = x - x % 512 := by omega
  rw [this]; rfl
theorem place_511 (p x : Nat) (hp : p < 17592186044416) (hx : x < 18446744073709551616) :
    arF .or .u64 (arF .shl .u64 (arF .or .u64 (arF .andNot .u64 p 511) (arF .and .u64 (arF .shr .u64 x 12) 511)) 12) (arF .and .u64 x 4095) = (((p - p % 512 + x / 4096 % 512) * 4096 + x % 4096 : Nat) : Int) := by
  rw [andNot_511 p (by omega), shr_12, and_511, and_4095, or_k 9 _ _ (by omega) (by omega) (by omega) (by omega), shl_12, or_k 12 _ _ (by omega) (by omega) (by omega) (by omega)]
  congr 2
  omega
theorem andNot_262143 (x : Nat) (hx : x < 18446744073709551616) : arF .andNot .u64 x 262143 = (x - x % 262144 : Nat) := by
  have h1 : Nat.land (lowOf .u64 x) (span .u64 - 1 - lowOf .u64 262143) = x &&& 18446744073709289472 := by rw [low_nat x hx]; rfl
  simp only [arF, ofLow, isSigned, h1]
  have h2 : x &&& 262143 = x % 262144 := Nat.and_two_pow_sub_one_eq_mod x 18
  have h3 : x &&& 18446744073709551615 = x := by
    have := Nat.and_two_pow_sub_one_eq_mod x 64
    rw [Nat.mod_eq_of_lt hx] at this; exact this
  have h4 := and_add_or (x &&& 262143) (x &&& 18446744073709289472)
  have h5 : (x &&& 262143) &&& (x &&& 18446744073709289472) = 0 := by
    rw [Nat.and_comm x 262143, Nat.and_assoc, ← Nat.and_assoc x x, Nat.and_self, Nat.and_comm x 18446744073709289472, ← Nat.and_assoc, show (262143 : Nat) &&& 18446744073709289472 = 0 from rfl, Nat.zero_and]
  have h6 : (x &&& 262143) ||| (x &&& 18446744073709289472) = x := by
    rw [← Nat.and_or_distrib_left, show (262143 : Nat) ||| 18446744073709289472 = 18446744073709551615 from rfl, h3]
  rw [h5, h6, h2] at h4
  have : x &&& 18446744073709289472 = x - x % 262144 := by omega
  rw [this]; rfl
theorem place_262143 (p x : Nat) (hp : p < 17592186044416) (hx : x < 18446744073709551616) :
    arF .or .u64 (arF .shl .u64 (arF .or .u64 (arF .andNot .u64 p 262143) (arF .and .u64 (arF .shr .u64 x 12) 262143)) 12) (arF .and .u64 x 4095) = (((p - p % 262144 + x / 4096 % 262144) * 4096 + x % 4096 : Nat) : Int) := by
  rw [andNot_262143 p (by omega), shr_12, and_262143, and_4095, or_k 18 _ _ (by omega) (by omega) (by omega) (by omega), shl_12, or_k 12 _ _ (by omega) (by omega) (by omega) (by omega)]
  congr 2
  omega
theorem or_comm' (a b : Int) : arF .or .u64 a b = arF .or .u64 b a := by
  simp only [arF]
  congr 1
  exact Nat.or_comm _ _
theorem shr_nat (x : Nat) (n : Nat) (hn : n < 64) : arF .shr .u64 x n = (x / 2 ^ n : Nat) := by
  have : min n 64 = n := by omega
  simp only [arF, kindBits, Int.toNat_natCast, this]
  show ((x : Int)).fdiv ((2 ^ n : Nat) : Int) = _
  rw [Int.fdiv_eq_ediv_of_nonneg _ (Int.natCast_nonneg _)]
  rfl
theorem and_1 (x : Nat) : arF .and .u64 x 1 = (x % 2 : Nat) := by
  simp only [arF, ofLow, isSigned]
  have : Nat.land (lowOf .u64 x) (lowOf .u64 1) = x % 18446744073709551616 % 2 := Nat.and_two_pow_sub_one_eq_mod (x % 18446744073709551616) 1
  rw [this]
  have h : x % 18446744073709551616 % 2 = x % 2 := by omega
  rw [h]; rfl
theorem shl_bit (b k : Nat) (hb : b < 2) (hk : k < 63) : arF .shl .u64 b k = (b * 2 ^ k : Nat) ∧ b * 2 ^ k < 18446744073709551616 := by
  have hm : min k 64 = k := by omega
  have hp : 2 ^ k ≤ 2 ^ 62 := Nat.pow_le_pow_right (by decide) (by omega)
  have hlt : b * 2 ^ k < 18446744073709551616 := by
    have : b * 2 ^ k ≤ 1 * 2 ^ 62 := Nat.mul_le_mul (by omega) hp
    have : (1 * 2 ^ 62 : Nat) < 18446744073709551616 := by decide
    omega
  refine ⟨?_, hlt⟩
  simp only [arF, kindBits, Int.toNat_natCast, hm, wrap_u64]
  have : ((b : Int) * Int.ofNat (2 ^ k)) = ((b * 2 ^ k : Nat) : Int) := by simp
  rw [this]
  omega
theorem step (z y k s : Nat) (hk : k < 63) (hs : s < 64) (hb : y / 2 ^ s % 2 = z / 2 ^ k % 2) :
    arF .or .u64 ((z % 2 ^ k : Nat) : Int) (arF .shl .u64 (arF .and .u64 (arF .shr .u64 (y : Int) (s : Int)) 1) (k : Int)) = ((z % 2 ^ (k + 1) : Nat) : Int) := by
  rw [shr_nat y s hs, and_1, hb]
  obtain ⟨e1, e2⟩ := shl_bit (z / 2 ^ k % 2) k (Nat.mod_lt _ (by decide)) hk
  have hp : 2 ^ k ≤ 2 ^ 62 := Nat.pow_le_pow_right (by decide) (by omega)
  have hz : z % 2 ^ k < 2 ^ k := Nat.mod_lt _ (Nat.two_pow_pos k)
  have h62 : (2 ^ 62 : Nat) < 18446744073709551616 := by decide
  rw [e1, or_comm', or_k k _ _ (Nat.mul_mod_left _ _) hz e2 (by omega), Nat.mod_pow_succ, Nat.mul_comm (2 ^ k), Nat.add_comm]
theorem su_12 (z y : Nat) (hb : y % 2 = z / 4096 % 2) : arF .or .u64 ((z % 4096 : Nat) : Int) (arF .shl .u64 (arF .and .u64 (y : Int) 1) 12) = ((z % 8192 : Nat) : Int) := by
  have := step z y 12 0 (by decide) (by decide) (by rw [Nat.pow_zero, Nat.div_one]; exact hb)
  rw [shr_nat y 0 (by decide), Nat.pow_zero, Nat.div_one] at this
  exact this
theorem st_0_0 (z y : Nat) (hb : y / 1 % 2 = z / 1 % 2) : arF .or .u64 0 (arF .shl .u64 (arF .and .u64 (arF .shr .u64 (y : Int) 0) 1) 0) = ((z % 2 : Nat) : Int) := by
  have := step z y 0 0 (by decide) (by decide) hb
  rw [show z % 2 ^ 0 = 0 from Nat.mod_one z] at this
  exact this
theorem st_1_1 (z y : Nat) (hb : y / 2 % 2 = z / 2 % 2) : arF .or .u64 ((z % 2 : Nat) : Int) (arF .shl .u64 (arF .and .u64 (arF .shr .u64 (y : Int) 1) 1) 1) = ((z % 4 : Nat) : Int) := step z y 1 1 (by decide) (by decide) hb
theorem st_2_2 (z y : Nat) (hb : y / 4 % 2 = z / 4 % 2) : arF .or .u64 ((z % 4 : Nat) : Int) (arF .shl .u64 (arF .and .u64 (arF .shr .u64 (y : Int) 2) 1) 2) = ((z % 8 : Nat) : Int) := step z y 2 2 (by decide) (by decide) hb
theorem st_3_3 (z y : Nat) (hb : y / 8 % 2 = z / 8 % 2) : arF .or .u64 ((z % 8 : Nat) : Int) (arF .shl .u64 (arF .and .u64 (arF .shr .u64 (y : Int) 3) 1) 3) = ((z % 16 : Nat) : Int) := step z y 3 3 (by decide) (by decide) hb
theorem st_4_4 (z y : Nat) (hb : y / 16 % 2 = z / 16 % 2) : arF .or .u64 ((z % 16 : Nat) : Int) (arF .shl .u64 (arF .and .u64 (arF .shr .u64 (y : Int) 4) 1) 4) = ((z % 32 : Nat) : Int) := step z y 4 4 (by decide) (by decide) hb
theorem st_5_5 (z y : Nat) (hb : y / 32 % 2 = z / 32 % 2) : arF .or .u64 ((z % 32 : Nat) : Int) (arF .shl .u64 (arF .and .u64 (arF .shr .u64 (y : Int) 5) 1) 5) = ((z % 64 : Nat) : Int) := step z y 5 5 (by decide) (by decide) hb
theorem st_6_6 (z y : Nat) (hb : y / 64 % 2 = z / 64 % 2) : arF .or .u64 ((z % 64 : Nat) : Int) (arF .shl .u64 (arF .and .u64 (arF .shr .u64 (y : Int) 6) 1) 6) = ((z % 128 : Nat) : Int) := step z y 6 6 (by decide) (by decide) hb
theorem st_7_7 (z y : Nat) (hb : y / 128 % 2 = z / 128 % 2) : arF .or .u64 ((z % 128 : Nat) : Int) (arF .shl .u64 (arF .and .u64 (arF .shr .u64 (y : Int) 7) 1) 7) = ((z % 256 : Nat) : Int) := step z y 7 7 (by decide) (by decide) hb
theorem st_8_8 (z y : Nat) (hb : y / 256 % 2 = z / 256 % 2) : arF .or .u64 ((z % 256 : Nat) : Int) (arF .shl .u64 (arF .and .u64 (arF .shr .u64 (y : Int) 8) 1) 8) = ((z % 512 : Nat) : Int) := step z y 8 8 (by decide) (by decide) hb
theorem st_9_9 (z y : Nat) (hb : y / 512 % 2 = z / 512 % 2) : arF .or .u64 ((z % 512 : Nat) : Int) (arF .shl .u64 (arF .and .u64 (arF .shr .u64 (y : Int) 9) 1) 9) = ((z % 1024 : Nat) : Int) := step z y 9 9 (by decide) (by decide) hb
theorem st_10_10 (z y : Nat) (hb : y / 1024 % 2 = z / 1024 % 2) : arF .or .u64 ((z % 1024 : Nat) : Int) (arF .shl .u64 (arF .and .u64 (arF .shr .u64 (y : Int) 10) 1) 10) = ((z % 2048 : Nat) : Int) := step z y 10 10 (by decide) (by decide) hb
theorem st_11_11 (z y : Nat) (hb : y / 2048 % 2 = z / 2048 % 2) : arF .or .u64 ((z % 2048 : Nat) : Int) (arF .shl .u64 (arF .and .u64 (arF .shr .u64 (y : Int) 11) 1) 11) = ((z % 4096 : Nat) : Int) := step z y 11 11 (by decide) (by decide) hb
theorem st_12_10 (z y : Nat) (hb : y / 1024 % 2 = z / 4096 % 2) : arF .or .u64 ((z % 4096 : Nat) : Int) (arF .shl .u64 (arF .and .u64 (arF .shr .u64 (y : Int) 10) 1) 12) = ((z % 8192 : Nat) : Int) := step z y 12 10 (by decide) (by decide) hb
theorem st_12_12 (z y : Nat) (hb : y / 4096 % 2 = z / 4096 % 2) : arF .or .u64 ((z % 4096 : Nat) : Int) (arF .shl .u64 (arF .and .u64 (arF .shr .u64 (y : Int) 12) 1) 12) = ((z % 8192 : Nat) : Int) := step z y 12 12 (by decide) (by decide) hb
theorem st_13_11 (z y : Nat) (hb : y / 2048 % 2 = z / 8192 % 2) : arF .or .u64 ((z % 8192 : Nat) : Int) (arF .shl .u64 (arF .and .u64 (arF .shr .u64 (y : Int) 11) 1) 13) = ((z % 16384 : Nat) : Int) := step z y 13 11 (by decide) (by decide) hb
theorem st_13_13 (z y : Nat) (hb : y / 8192 % 2 = z / 8192 % 2) : arF .or .u64 ((z % 8192 : Nat) : Int) (arF .shl .u64 (arF .and .u64 (arF .shr .u64 (y : Int) 13) 1) 13) = ((z % 16384 : Nat) : Int) := step z y 13 13 (by decide) (by decide) hb
theorem st_14_12 (z y : Nat) (hb : y / 4096 % 2 = z / 16384 % 2) : arF .or .u64 ((z % 16384 : Nat) : Int) (arF .shl .u64 (arF .and .u64 (arF .shr .u64 (y : Int) 12) 1) 14) = ((z % 32768 : Nat) : Int) := step z y 14 12 (by decide) (by decide) hb
theorem st_14_14 (z y : Nat) (hb : y / 16384 % 2 = z / 16384 % 2) : arF .or .u64 ((z % 16384 : Nat) : Int) (arF .shl .u64 (arF .and .u64 (arF .shr .u64 (y : Int) 14) 1) 14) = ((z % 32768 : Nat) : Int) := step z y 14 14 (by decide) (by decide) hb
theorem st_15_13 (z y : Nat) (hb : y / 8192 % 2 = z / 32768 % 2) : arF .or .u64 ((z % 32768 : Nat) : Int) (arF .shl .u64 (arF .and .u64 (arF .shr .u64 (y : Int) 13) 1) 15) = ((z % 65536 : Nat) : Int) := step z y 15 13 (by decide) (by decide) hb
theorem st_15_15 (z y : Nat) (hb : y / 32768 % 2 = z / 32768 % 2) : arF .or .u64 ((z % 32768 : Nat) : Int) (arF .shl .u64 (arF .and .u64 (arF .shr .u64 (y : Int) 15) 1) 15) = ((z % 65536 : Nat) : Int) := step z y 15 15 (by decide) (by decide) hb
theorem st_16_14 (z y : Nat) (hb : y / 16384 % 2 = z / 65536 % 2) : arF .or .u64 ((z % 65536 : Nat) : Int) (arF .shl .u64 (arF .and .u64 (arF .shr .u64 (y : Int) 14) 1) 16) = ((z % 131072 : Nat) : Int) := step z y 16 14 (by decide) (by decide) hb
theorem st_16_16 (z y : Nat) (hb : y / 65536 % 2 = z / 65536 % 2) : arF .or .u64 ((z % 65536 : Nat) : Int) (arF .shl .u64 (arF .and .u64 (arF .shr .u64 (y : Int) 16) 1) 16) = ((z % 131072 : Nat) : Int) := step z y 16 16 (by decide) (by decide) hb
theorem st_17_15 (z y : Nat) (hb : y / 32768 % 2 = z / 131072 % 2) : arF .or .u64 ((z % 131072 : Nat) : Int) (arF .shl .u64 (arF .and .u64 (arF .shr .u64 (y : Int) 15) 1) 17) = ((z % 262144 : Nat) : Int) := step z y 17 15 (by decide) (by decide) hb
theorem st_17_17 (z y : Nat) (hb : y / 131072 % 2 = z / 131072 % 2) : arF .or .u64 ((z % 131072 : Nat) : Int) (arF .shl .u64 (arF .and .u64 (arF .shr .u64 (y : Int) 17) 1) 17) = ((z % 262144 : Nat) : Int) := step z y 17 17 (by decide) (by decide) hb
theorem st_18_16 (z y : Nat) (hb : y / 65536 % 2 = z / 262144 % 2) : arF .or .u64 ((z % 262144 : Nat) : Int) (arF .shl .u64 (arF .and .u64 (arF .shr .u64 (y : Int) 16) 1) 18) = ((z % 524288 : Nat) : Int) := step z y 18 16 (by decide) (by decide) hb
theorem st_18_18 (z y : Nat) (hb : y / 262144 % 2 = z / 262144 % 2) : arF .or .u64 ((z % 262144 : Nat) : Int) (arF .shl .u64 (arF .and .u64 (arF .shr .u64 (y : Int) 18) 1) 18) = ((z % 524288 : Nat) : Int) := step z y 18 18 (by decide) (by decide) hb
theorem st_19_17 (z y : Nat) (hb : y / 131072 % 2 = z / 524288 % 2) : arF .or .u64 ((z % 524288 : Nat) : Int) (arF .shl .u64 (arF .and .u64 (arF .shr .u64 (y : Int) 17) 1) 19) = ((z % 1048576 : Nat) : Int) := step z y 19 17 (by decide) (by decide) hb
theorem st_19_19 (z y : Nat) (hb : y / 524288 % 2 = z / 524288 % 2) : arF .or .u64 ((z % 524288 : Nat) : Int) (arF .shl .u64 (arF .and .u64 (arF .shr .u64 (y : Int) 19) 1) 19) = ((z % 1048576 : Nat) : Int) := step z y 19 19 (by decide) (by decide) hb
theorem st_20_18 (z y : Nat) (hb : y / 262144 % 2 = z / 1048576 % 2) : arF .or .u64 ((z % 1048576 : Nat) : Int) (arF .shl .u64 (arF .and .u64 (arF .shr .u64 (y : Int) 18) 1) 20) = ((z % 2097152 : Nat) : Int) := step z y 20 18 (by decide) (by decide) hb
theorem st_20_20 (z y : Nat) (hb : y / 1048576 % 2 = z / 1048576 % 2) : arF .or .u64 ((z % 1048576 : Nat) : Int) (arF .shl .u64 (arF .and .u64 (arF .shr .u64 (y : Int) 20) 1) 20) = ((z % 2097152 : Nat) : Int) := step z y 20 20 (by decide) (by decide) hb
theorem st_21_19 (z y : Nat) (hb : y / 524288 % 2 = z / 2097152 % 2) : arF .or .u64 ((z % 2097152 : Nat) : Int) (arF .shl .u64 (arF .and .u64 (arF .shr .u64 (y : Int) 19) 1) 21) = ((z % 4194304 : Nat) : Int) := step z y 21 19 (by decide) (by decide) hb
theorem st_21_21 (z y : Nat) (hb : y / 2097152 % 2 = z / 2097152 % 2) : arF .or .u64 ((z % 2097152 : Nat) : Int) (arF .shl .u64 (arF .and .u64 (arF .shr .u64 (y : Int) 21) 1) 21) = ((z % 4194304 : Nat) : Int) := step z y 21 21 (by decide) (by decide) hb
theorem st_22_20 (z y : Nat) (hb : y / 1048576 % 2 = z / 4194304 % 2) : arF .or .u64 ((z % 4194304 : Nat) : Int) (arF .shl .u64 (arF .and .u64 (arF .shr .u64 (y : Int) 20) 1) 22) = ((z % 8388608 : Nat) : Int) := step z y 22 20 (by decide) (by decide) hb
theorem st_22_22 (z y : Nat) (hb : y / 4194304 % 2 = z / 4194304 % 2) : arF .or .u64 ((z % 4194304 : Nat) : Int) (arF .shl .u64 (arF .and .u64 (arF .shr .u64 (y : Int) 22) 1) 22) = ((z % 8388608 : Nat) : Int) := step z y 22 22 (by decide) (by decide) hb
theorem st_23_21 (z y : Nat) (hb : y / 2097152 % 2 = z / 8388608 % 2) : arF .or .u64 ((z % 8388608 : Nat) : Int) (arF .shl .u64 (arF .and .u64 (arF .shr .u64 (y : Int) 21) 1) 23) = ((z % 16777216 : Nat) : Int) := step z y 23 21 (by decide) (by decide) hb
theorem st_23_23 (z y : Nat) (hb : y / 8388608 % 2 = z / 8388608 % 2) : arF .or .u64 ((z % 8388608 : Nat) : Int) (arF .shl .u64 (arF .and .u64 (arF .shr .u64 (y : Int) 23) 1) 23) = ((z % 16777216 : Nat) : Int) := step z y 23 23 (by decide) (by decide) hb
theorem st_24_22 (z y : Nat) (hb : y / 4194304 % 2 = z / 16777216 % 2) : arF .or .u64 ((z % 16777216 : Nat) : Int) (arF .shl .u64 (arF .and .u64 (arF .shr .u64 (y : Int) 22) 1) 24) = ((z % 33554432 : Nat) : Int) := step z y 24 22 (by decide) (by decide) hb
theorem st_24_24 (z y : Nat) (hb : y / 16777216 % 2 = z / 16777216 % 2) : arF .or .u64 ((z % 16777216 : Nat) : Int) (arF .shl .u64 (arF .and .u64 (arF .shr .u64 (y : Int) 24) 1) 24) = ((z % 33554432 : Nat) : Int) := step z y 24 24 (by decide) (by decide) hb
theorem st_25_23 (z y : Nat) (hb : y / 8388608 % 2 = z / 33554432 % 2) : arF .or .u64 ((z % 33554432 : Nat) : Int) (arF .shl .u64 (arF .and .u64 (arF .shr .u64 (y : Int) 23) 1) 25) = ((z % 67108864 : Nat) : Int) := step z y 25 23 (by decide) (by decide) hb
theorem st_25_25 (z y : Nat) (hb : y / 33554432 % 2 = z / 33554432 % 2) : arF .or .u64 ((z % 33554432 : Nat) : Int) (arF .shl .u64 (arF .and .u64 (arF .shr .u64 (y : Int) 25) 1) 25) = ((z % 67108864 : Nat) : Int) := step z y 25 25 (by decide) (by decide) hb
theorem st_26_24 (z y : Nat) (hb : y / 16777216 % 2 = z / 67108864 % 2) : arF .or .u64 ((z % 67108864 : Nat) : Int) (arF .shl .u64 (arF .and .u64 (arF .shr .u64 (y : Int) 24) 1) 26) = ((z % 134217728 : Nat) : Int) := step z y 26 24 (by decide) (by decide) hb
theorem st_26_26 (z y : Nat) (hb : y / 67108864 % 2 = z / 67108864 % 2) : arF .or .u64 ((z % 67108864 : Nat) : Int) (arF .shl .u64 (arF .and .u64 (arF .shr .u64 (y : Int) 26) 1) 26) = ((z % 134217728 : Nat) : Int) := step z y 26 26 (by decide) (by decide) hb
theorem st_27_25 (z y : Nat) (hb : y / 33554432 % 2 = z / 134217728 % 2) : arF .or .u64 ((z % 134217728 : Nat) : Int) (arF .shl .u64 (arF .and .u64 (arF .shr .u64 (y : Int) 25) 1) 27) = ((z % 268435456 : Nat) : Int) := step z y 27 25 (by decide) (by decide) hb
theorem st_27_27 (z y : Nat) (hb : y / 134217728 % 2 = z / 134217728 % 2) : arF .or .u64 ((z % 134217728 : Nat) : Int) (arF .shl .u64 (arF .and .u64 (arF .shr .u64 (y : Int) 27) 1) 27) = ((z % 268435456 : Nat) : Int) := step z y 27 27 (by decide) (by decide) hb
theorem st_28_26 (z y : Nat) (hb : y / 67108864 % 2 = z / 268435456 % 2) : arF .or .u64 ((z % 268435456 : Nat) : Int) (arF .shl .u64 (arF .and .u64 (arF .shr .u64 (y : Int) 26) 1) 28) = ((z % 536870912 : Nat) : Int) := step z y 28 26 (by decide) (by decide) hb
theorem st_28_28 (z y : Nat) (hb : y / 268435456 % 2 = z / 268435456 % 2) : arF .or .u64 ((z % 268435456 : Nat) : Int) (arF .shl .u64 (arF .and .u64 (arF .shr .u64 (y : Int) 28) 1) 28) = ((z % 536870912 : Nat) : Int) := step z y 28 28 (by decide) (by decide) hb
theorem st_29_27 (z y : Nat) (hb : y / 134217728 % 2 = z / 536870912 % 2) : arF .or .u64 ((z % 536870912 : Nat) : Int) (arF .shl .u64 (arF .and .u64 (arF .shr .u64 (y : Int) 27) 1) 29) = ((z % 1073741824 : Nat) : Int) := step z y 29 27 (by decide) (by decide) hb
theorem st_29_29 (z y : Nat) (hb : y / 536870912 % 2 = z / 536870912 % 2) : arF .or .u64 ((z % 536870912 : Nat) : Int) (arF .shl .u64 (arF .and .u64 (arF .shr .u64 (y : Int) 29) 1) 29) = ((z % 1073741824 : Nat) : Int) := step z y 29 29 (by decide) (by decide) hb
theorem st_30_28 (z y : Nat) (hb : y / 268435456 % 2 = z / 1073741824 % 2) : arF .or .u64 ((z % 1073741824 : Nat) : Int) (arF .shl .u64 (arF .and .u64 (arF .shr .u64 (y : Int) 28) 1) 30) = ((z % 2147483648 : Nat) : Int) := step z y 30 28 (by decide) (by decide) hb
theorem st_31_29 (z y : Nat) (hb : y / 536870912 % 2 = z / 2147483648 % 2) : arF .or .u64 ((z % 2147483648 : Nat) : Int) (arF .shl .u64 (arF .and .u64 (arF .shr .u64 (y : Int) 29) 1) 31) = ((z % 4294967296 : Nat) : Int) := step z y 31 29 (by decide) (by decide) hb
theorem st_32_30 (z y : Nat) (hb : y / 1073741824 % 2 = z / 4294967296 % 2) : arF .or .u64 ((z % 4294967296 : Nat) : Int) (arF .shl .u64 (arF .and .u64 (arF .shr .u64 (y : Int) 30) 1) 32) = ((z % 8589934592 : Nat) : Int) := step z y 32 30 (by decide) (by decide) hb
theorem st_33_31 (z y : Nat) (hb : y / 2147483648 % 2 = z / 8589934592 % 2) : arF .or .u64 ((z % 8589934592 : Nat) : Int) (arF .shl .u64 (arF .and .u64 (arF .shr .u64 (y : Int) 31) 1) 33) = ((z % 17179869184 : Nat) : Int) := step z y 33 31 (by decide) (by decide) hb
theorem st_34_32 (z y : Nat) (hb : y / 4294967296 % 2 = z / 17179869184 % 2) : arF .or .u64 ((z % 17179869184 : Nat) : Int) (arF .shl .u64 (arF .and .u64 (arF .shr .u64 (y : Int) 32) 1) 34) = ((z % 34359738368 : Nat) : Int) := step z y 34 32 (by decide) (by decide) hb
theorem st_35_33 (z y : Nat) (hb : y / 8589934592 % 2 = z / 34359738368 % 2) : arF .or .u64 ((z % 34359738368 : Nat) : Int) (arF .shl .u64 (arF .and .u64 (arF .shr .u64 (y : Int) 33) 1) 35) = ((z % 68719476736 : Nat) : Int) := step z y 35 33 (by decide) (by decide) hb
theorem st_36_34 (z y : Nat) (hb : y / 17179869184 % 2 = z / 68719476736 % 2) : arF .or .u64 ((z % 68719476736 : Nat) : Int) (arF .shl .u64 (arF .and .u64 (arF .shr .u64 (y : Int) 34) 1) 36) = ((z % 137438953472 : Nat) : Int) := step z y 36 34 (by decide) (by decide) hb
theorem st_37_35 (z y : Nat) (hb : y / 34359738368 % 2 = z / 137438953472 % 2) : arF .or .u64 ((z % 137438953472 : Nat) : Int) (arF .shl .u64 (arF .and .u64 (arF .shr .u64 (y : Int) 35) 1) 37) = ((z % 274877906944 : Nat) : Int) := step z y 37 35 (by decide) (by decide) hb
theorem st_38_36 (z y : Nat) (hb : y / 68719476736 % 2 = z / 274877906944 % 2) : arF .or .u64 ((z % 274877906944 : Nat) : Int) (arF .shl .u64 (arF .and .u64 (arF .shr .u64 (y : Int) 36) 1) 38) = ((z % 549755813888 : Nat) : Int) := step z y 38 36 (by decide) (by decide) hb
theorem st_39_37 (z y : Nat) (hb : y / 137438953472 % 2 = z / 549755813888 % 2) : arF .or .u64 ((z % 549755813888 : Nat) : Int) (arF .shl .u64 (arF .and .u64 (arF .shr .u64 (y : Int) 37) 1) 39) = ((z % 1099511627776 : Nat) : Int) := step z y 39 37 (by decide) (by decide) hb
theorem st_40_38 (z y : Nat) (hb : y / 274877906944 % 2 = z / 1099511627776 % 2) : arF .or .u64 ((z % 1099511627776 : Nat) : Int) (arF .shl .u64 (arF .and .u64 (arF .shr .u64 (y : Int) 38) 1) 40) = ((z % 2199023255552 : Nat) : Int) := step z y 40 38 (by decide) (by decide) hb
theorem st_41_39 (z y : Nat) (hb : y / 549755813888 % 2 = z / 2199023255552 % 2) : arF .or .u64 ((z % 2199023255552 : Nat) : Int) (arF .shl .u64 (arF .and .u64 (arF .shr .u64 (y : Int) 39) 1) 41) = ((z % 4398046511104 : Nat) : Int) := step z y 41 39 (by decide) (by decide) hb
theorem st_42_40 (z y : Nat) (hb : y / 1099511627776 % 2 = z / 4398046511104 % 2) : arF .or .u64 ((z % 4398046511104 : Nat) : Int) (arF .shl .u64 (arF .and .u64 (arF .shr .u64 (y : Int) 40) 1) 42) = ((z % 8796093022208 : Nat) : Int) := step z y 42 40 (by decide) (by decide) hb
theorem st_43_41 (z y : Nat) (hb : y / 2199023255552 % 2 = z / 8796093022208 % 2) : arF .or .u64 ((z % 8796093022208 : Nat) : Int) (arF .shl .u64 (arF .and .u64 (arF .shr .u64 (y : Int) 41) 1) 43) = ((z % 17592186044416 : Nat) : Int) := step z y 43 41 (by decide) (by decide) hb
theorem st_44_42 (z y : Nat) (hb : y / 4398046511104 % 2 = z / 17592186044416 % 2) : arF .or .u64 ((z % 17592186044416 : Nat) : Int) (arF .shl .u64 (arF .and .u64 (arF .shr .u64 (y : Int) 42) 1) 44) = ((z % 35184372088832 : Nat) : Int) := step z y 44 42 (by decide) (by decide) hb
theorem st_45_43 (z y : Nat) (hb : y / 8796093022208 % 2 = z / 35184372088832 % 2) : arF .or .u64 ((z % 35184372088832 : Nat) : Int) (arF .shl .u64 (arF .and .u64 (arF .shr .u64 (y : Int) 43) 1) 45) = ((z % 70368744177664 : Nat) : Int) := step z y 45 43 (by decide) (by decide) hb
theorem st_46_44 (z y : Nat) (hb : y / 17592186044416 % 2 = z / 70368744177664 % 2) : arF .or .u64 ((z % 70368744177664 : Nat) : Int) (arF .shl .u64 (arF .and .u64 (arF .shr .u64 (y : Int) 44) 1) 46) = ((z % 140737488355328 : Nat) : Int) := step z y 46 44 (by decide) (by decide) hb
theorem st_47_45 (z y : Nat) (hb : y / 35184372088832 % 2 = z / 140737488355328 % 2) : arF .or .u64 ((z % 140737488355328 : Nat) : Int) (arF .shl .u64 (arF .and .u64 (arF .shr .u64 (y : Int) 45) 1) 47) = ((z % 281474976710656 : Nat) : Int) := step z y 47 45 (by decide) (by decide) hb
theorem st_48_46 (z y : Nat) (hb : y / 70368744177664 % 2 = z / 281474976710656 % 2) : arF .or .u64 ((z % 281474976710656 : Nat) : Int) (arF .shl .u64 (arF .and .u64 (arF .shr .u64 (y : Int) 46) 1) 48) = ((z % 562949953421312 : Nat) : Int) := step z y 48 46 (by decide) (by decide) hb
theorem st_49_47 (z y : Nat) (hb : y / 140737488355328 % 2 = z / 562949953421312 % 2) : arF .or .u64 ((z % 562949953421312 : Nat) : Int) (arF .shl .u64 (arF .and .u64 (arF .shr .u64 (y : Int) 47) 1) 49) = ((z % 1125899906842624 : Nat) : Int) := step z y 49 47 (by decide) (by decide) hb
theorem st_50_48 (z y : Nat) (hb : y / 281474976710656 % 2 = z / 1125899906842624 % 2) : arF .or .u64 ((z % 1125899906842624 : Nat) : Int) (arF .shl .u64 (arF .and .u64 (arF .shr .u64 (y : Int) 48) 1) 50) = ((z % 2251799813685248 : Nat) : Int) := step z y 50 48 (by decide) (by decide) hb
theorem st_51_49 (z y : Nat) (hb : y / 562949953421312 % 2 = z / 2251799813685248 % 2) : arF .or .u64 ((z % 2251799813685248 : Nat) : Int) (arF .shl .u64 (arF .and .u64 (arF .shr .u64 (y : Int) 49) 1) 51) = ((z % 4503599627370496 : Nat) : Int) := step z y 51 49 (by decide) (by decide) hb
theorem st_52_50 (z y : Nat) (hb : y / 1125899906842624 % 2 = z / 4503599627370496 % 2) : arF .or .u64 ((z % 4503599627370496 : Nat) : Int) (arF .shl .u64 (arF .and .u64 (arF .shr .u64 (y : Int) 50) 1) 52) = ((z % 9007199254740992 : Nat) : Int) := step z y 52 50 (by decide) (by decide) hb
theorem st_53_51 (z y : Nat) (hb : y / 2251799813685248 % 2 = z / 9007199254740992 % 2) : arF .or .u64 ((z % 9007199254740992 : Nat) : Int) (arF .shl .u64 (arF .and .u64 (arF .shr .u64 (y : Int) 51) 1) 53) = ((z % 18014398509481984 : Nat) : Int) := step z y 53 51 (by decide) (by decide) hb
theorem st_54_52 (z y : Nat) (hb : y / 4503599627370496 % 2 = z / 18014398509481984 % 2) : arF .or .u64 ((z % 18014398509481984 : Nat) : Int) (arF .shl .u64 (arF .and .u64 (arF .shr .u64 (y : Int) 52) 1) 54) = ((z % 36028797018963968 : Nat) : Int) := step z y 54 52 (by decide) (by decide) hb
theorem st_55_53 (z y : Nat) (hb : y / 9007199254740992 % 2 = z / 36028797018963968 % 2) : arF .or .u64 ((z % 36028797018963968 : Nat) : Int) (arF .shl .u64 (arF .and .u64 (arF .shr .u64 (y : Int) 53) 1) 55) = ((z % 72057594037927936 : Nat) : Int) := step z y 55 53 (by decide) (by decide) hb
set_option maxHeartbeats 2000000 in
theorem cf0_0_ok (e : Nat → Int) : (true = true ↔ cf0_0.den e ≠ 0) := by
  refine eqTrue ?_
  obtain ⟨a, ha, ha'⟩ := var_nat e 2
  obtain ⟨x, hx, hx'⟩ := var_nat e 8
  simp only [N.den] at ha hx ⊢
  simp only [ha, hx]
  rw [shr_10, and_17592186044415, place_0 _ x (Nat.mod_lt _ (by decide)) hx']
  generalize hz : (a / 1024 % 17592186044416 - a / 1024 % 17592186044416 % 1 + x / 4096 % 1) * 4096 + x % 4096 = z
  have hlt : z < 72057594037927936 := by omega
  rw [st_0_0 z x (by omega), st_1_1 z x (by omega), st_2_2 z x (by omega), st_3_3 z x (by omega), st_4_4 z x (by omega), st_5_5 z x (by omega), st_6_6 z x (by omega), st_7_7 z x (by omega), st_8_8 z x (by omega), st_9_9 z x (by omega), st_10_10 z x (by omega), st_11_11 z x (by omega), su_12 z (a / 1024) (by omega), st_13_11 z a (by omega), st_14_12 z a (by omega), st_15_13 z a (by omega), st_16_14 z a (by omega), st_17_15 z a (by omega), st_18_16 z a (by omega), st_19_17 z a (by omega), st_20_18 z a (by omega), st_21_19 z a (by omega), st_22_20 z a (by omega), st_23_21 z a (by omega), st_24_22 z a (by omega), st_25_23 z a (by omega), st_26_24 z a (by omega), st_27_25 z a (by omega), st_28_26 z a (by omega), st_29_27 z a (by omega), st_30_28 z a (by omega), st_31_29 z a (by omega), st_32_30 z a (by omega), st_33_31 z a (by omega), st_34_32 z a (by omega), st_35_33 z a (by omega), st_36_34 z a (by omega), st_37_35 z a (by omega), st_38_36 z a (by omega), st_39_37 z a (by omega), st_40_38 z a (by omega), st_41_39 z a (by omega), st_42_40 z a (by omega), st_43_41 z a (by omega), st_44_42 z a (by omega), st_45_43 z a (by omega), st_46_44 z a (by omega), st_47_45 z a (by omega), st_48_46 z a (by omega), st_49_47 z a (by omega), st_50_48 z a (by omega), st_51_49 z a (by omega), st_52_50 z a (by omega), st_53_51 z a (by omega), st_54_52 z a (by omega), st_55_53 z a (by omega)]
  congr 1
  omega
set_option maxHeartbeats 2000000 in
theorem cf1_0_ok (e : Nat → Int) : (true = true ↔ cf1_0.den e ≠ 0) := by
  refine eqTrue ?_
  obtain ⟨a, ha, ha'⟩ := var_nat e 2
  obtain ⟨x, hx, hx'⟩ := var_nat e 8
  simp only [N.den] at ha hx ⊢
  simp only [ha, hx]
  rw [shr_10, and_17592186044415, place_511 _ x (Nat.mod_lt _ (by decide)) hx']
  generalize hz : (a / 1024 % 17592186044416 - a / 1024 % 17592186044416 % 512 + x / 4096 % 512) * 4096 + x % 4096 = z
  have hlt : z < 72057594037927936 := by omega
  rw [st_0_0 z x (by omega), st_1_1 z x (by omega), st_2_2 z x (by omega), st_3_3 z x (by omega), st_4_4 z x (by omega), st_5_5 z x (by omega), st_6_6 z x (by omega), st_7_7 z x (by omega), st_8_8 z x (by omega), st_9_9 z x (by omega), st_10_10 z x (by omega), st_11_11 z x (by omega), st_12_12 z x (by omega), st_13_13 z x (by omega), st_14_14 z x (by omega), st_15_15 z x (by omega), st_16_16 z x (by omega), st_17_17 z x (by omega), st_18_18 z x (by omega), st_19_19 z x (by omega), st_20_20 z x (by omega), st_21_19 z a (by omega), st_22_20 z a (by omega), st_23_21 z a (by omega), st_24_22 z a (by omega), st_25_23 z a (by omega), st_26_24 z a (by omega), st_27_25 z a (by omega), st_28_26 z a (by omega), st_29_27 z a (by omega), st_30_28 z a (by omega), st_31_29 z a (by omega), st_32_30 z a (by omega), st_33_31 z a (by omega), st_34_32 z a (by omega), st_35_33 z a (by omega), st_36_34 z a (by omega), st_37_35 z a (by omega), st_38_36 z a (by omega), st_39_37 z a (by omega), st_40_38 z a (by omega), st_41_39 z a (by omega), st_42_40 z a (by omega), st_43_41 z a (by omega), st_44_42 z a (by omega), st_45_43 z a (by omega), st_46_44 z a (by omega), st_47_45 z a (by omega), st_48_46 z a (by omega), st_49_47 z a (by omega), st_50_48 z a (by omega), st_51_49 z a (by omega), st_52_50 z a (by omega), st_53_51 z a (by omega), st_54_52 z a (by omega), st_55_53 z a (by omega)]
  congr 1
  omega
set_option maxHeartbeats 2000000 in
theorem cf2_0_ok (e : Nat → Int) : (true = true ↔ cf2_0.den e ≠ 0) := by
  refine eqTrue ?_
  obtain ⟨a, ha, ha'⟩ := var_nat e 2
  obtain ⟨x, hx, hx'⟩ := var_nat e 8
  simp only [N.den] at ha hx ⊢
  simp only [ha, hx]
  rw [shr_10, and_17592186044415, place_262143 _ x (Nat.mod_lt _ (by decide)) hx']
  generalize hz : (a / 1024 % 17592186044416 - a / 1024 % 17592186044416 % 262144 + x / 4096 % 262144) * 4096 + x % 4096 = z
  have hlt : z < 72057594037927936 := by omega
  rw [st_0_0 z x (by omega), st_1_1 z x (by omega), st_2_2 z x (by omega), st_3_3 z x (by omega), st_4_4 z x (by omega), st_5_5 z x (by omega), st_6_6 z x (by omega), st_7_7 z x (by omega), st_8_8 z x (by omega), st_9_9 z x (by omega), st_10_10 z x (by omega), st_11_11 z x (by omega), st_12_12 z x (by omega), st_13_13 z x (by omega), st_14_14 z x (by omega), st_15_15 z x (by omega), st_16_16 z x (by omega), st_17_17 z x (by omega), st_18_18 z x (by omega), st_19_19 z x (by omega), st_20_20 z x (by omega), st_21_21 z x (by omega), st_22_22 z x (by omega), st_23_23 z x (by omega), st_24_24 z x (by omega), st_25_25 z x (by omega), st_26_26 z x (by omega), st_27_27 z x (by omega), st_28_28 z x (by omega), st_29_29 z x (by omega), st_30_28 z a (by omega), st_31_29 z a (by omega), st_32_30 z a (by omega), st_33_31 z a (by omega), st_34_32 z a (by omega), st_35_33 z a (by omega), st_36_34 z a (by omega), st_37_35 z a (by omega), st_38_36 z a (by omega), st_39_37 z a (by omega), st_40_38 z a (by omega), st_41_39 z a (by omega), st_42_40 z a (by omega), st_43_41 z a (by omega), st_44_42 z a (by omega), st_45_43 z a (by omega), st_46_44 z a (by omega), st_47_45 z a (by omega), st_48_46 z a (by omega), st_49_47 z a (by omega), st_50_48 z a (by omega), st_51_49 z a (by omega), st_52_50 z a (by omega), st_53_51 z a (by omega), st_54_52 z a (by omega), st_55_53 z a (by omega)]
  congr 1
  omega
theorem cases_ok (e : Nat → Int) : Holds e case0 ∧ Holds e case1 ∧ Holds e case2 :=
  ⟨(none_ok e).cons (cf0_0_ok e), (none_ok e).cons (cf1_0_ok e), (none_ok e).cons (cf2_0_ok e)⟩
theorem case3_ok (e : Nat → Int) (h : N.den e v3 < 0) : Holds e case3 := (none_ok e).cons (tl h)
theorem case4_ok (e : Nat → Int) (h : 3 ≤ N.den e v3) : Holds e case4 := (none_ok e).cons (fl (by simp only [N.den] at h ⊢; omega))
end Go.Proofs.Ytacamlbnnaenpaa.Sx
