/- The order of signed numbers; some of the chapter's answers. -/
import Derived.Test.YtmpedmiehhnniaaE
import Derived.Laws.BitsAllLaws
namespace Go.Proofs.Ytmpedmiehhnniaa
open Go.RowKit

set_option maxHeartbeats 1000000 in
theorem is_any (op a b r : Int) (HD : ∀ w, Calls Try.prog 31 #[.int .u8 op, .int .u64 a, .int .u64 b] w fun e w' => e = .returned (.tuple #[.int .u64 r, .bool true]) ∧ Below w.heap.size w w') (w : World) :
    Calls Try.prog 41 #[.int .u8 op, .int .u64 a, .int .u64 b, .int .u64 r] w fun e w' => e = .returned (.bool true) ∧ Below w.heap.size w w' := by
  have H := Lib.hid HD
  clear HD
  go_enter Try.func41, Try.ntmps41
  go_wp2_with fail
  refine (H.out _).mono ?_
  rintro e w1 ⟨rfl, d1⟩
  go_wp2_with fail
  go_ret
  exact ⟨by simp, d1⟩

/-- Is a less than b, as signed? -/
def slt (a b : Int) : Bool := decide (wrap64 a < wrap64 b)

theorem xor_half {x : Nat} (h : x < 2 ^ 63) : x ^^^ 2 ^ 63 = x + 2 ^ 63 := by
  rw [show x + 2 ^ 63 = 2 ^ 63 * 1 + x by omega, Nat.two_pow_add_eq_or_of_lt h, Nat.mul_one]
  apply Nat.eq_of_testBit_eq
  intro i
  rw [Nat.testBit_xor, Nat.testBit_or, Nat.testBit_two_pow]
  by_cases hi : 63 = i
  · subst hi
    rw [Nat.testBit_lt_two_pow h]
    simp
  · simp [hi]
theorem xor_half' {x : Nat} (h : 2 ^ 63 ≤ x) (h' : x < 2 ^ 64) : x ^^^ 2 ^ 63 = x - 2 ^ 63 := by
  have e := xor_half (x := x - 2 ^ 63) (by omega)
  have e2 : (x - 2 ^ 63) ^^^ 2 ^ 63 = x := by rw [e]; omega
  calc x ^^^ 2 ^ 63 = ((x - 2 ^ 63) ^^^ 2 ^ 63) ^^^ 2 ^ 63 := by rw [e2]
    _ = x - 2 ^ 63 := by rw [Nat.xor_assoc, Nat.xor_self, Nat.xor_zero]

/-- Turned by its highest bit, the order of numbers is that of signed ones. -/
def turn64 (a : Int) : Int := bits BinOp.xor IntKind.u64 a 9223372036854775808
theorem turn64_eq {a : Int} (h0 : 0 ≤ a) (h1 : a ≤ 18446744073709551615) : turn64 a = if a < 9223372036854775808 then a + 9223372036854775808 else a - 9223372036854775808 := by
  unfold turn64
  rw [u64_xor a 9223372036854775808 h0 (by omega) (by omega) (by omega)]
  obtain ⟨n, rfl⟩ := Int.eq_ofNat_of_zero_le h0
  by_cases h : n < 2 ^ 63
  · rw [if_pos (by omega), Int.toNat_natCast, show (9223372036854775808 : Int).toNat = 2 ^ 63 from rfl, xor_half h]
    omega
  · rw [if_neg (by omega), Int.toNat_natCast, show (9223372036854775808 : Int).toNat = 2 ^ 63 from rfl, xor_half' (by omega) (by omega)]
    omega
theorem wrap64_eq {a : Int} (h0 : 0 ≤ a) (h1 : a ≤ 18446744073709551615) : wrap64 a = if a < 9223372036854775808 then a else a - 18446744073709551616 := by
  unfold wrap64
  split <;> omega
theorem slt_xor {a b : Int} (ha0 : 0 ≤ a) (ha1 : a ≤ 18446744073709551615) (hb0 : 0 ≤ b) (hb1 : b ≤ 18446744073709551615) : decide (turn64 a < turn64 b) = slt a b := by
  unfold slt
  rw [decide_eq_decide, turn64_eq ha0 ha1, turn64_eq hb0 hb1, wrap64_eq ha0 ha1, wrap64_eq hb0 hb1]
  split <;> split <;> omega

set_option maxHeartbeats 1000000 in
theorem less_any (a b : Int) (x : Bool) (hx : slt a b = x) (w : World) : Calls Try.prog 54 #[.agg #[.int .u64 a, .int .u64 b]] w fun e w' => e = .returned (.bool x) ∧ Below w.heap.size w w' := by
  subst hx
  go_enter Try.func54, Try.ntmps54
  go_wp2
  go_ret
  exact ⟨rfl, (Below.refl _ _).alloc (Nat.le_refl _) _⟩

set_option maxHeartbeats 1000000 in
theorem refLess_any (a b : Int) (ha0 : 0 ≤ a) (ha1 : a ≤ 18446744073709551615) (hb0 : 0 ≤ b) (hb1 : b ≤ 18446744073709551615) (x : Bool) (hx : slt a b = x) (w : World) : Calls Try.prog 55 #[.int .u64 a, .int .u64 b] w fun e w' => e = .returned (.bool x) ∧ w = w' := by
  have HX := Lib.hid (slt_xor ha0 ha1 hb0 hb1)
  subst hx
  rw [← HX.out]
  go_enter Try.func55, Try.ntmps55
  go_wp2
  go_ret
  exact ⟨rfl, rfl⟩

set_option maxHeartbeats 1000000 in
theorem blt_known (w : World) : Calls Try.prog 36 #[.int .u8 7, .int .u64 18446744073709551615, .int .u64 0] w fun e w' => e = .returned (.tuple #[.bool true, .bool true]) ∧ Below w.heap.size w w' := by
  go_enter Try.func36, Try.ntmps36
  go_wp2_with fail
  refine (less_any _ _ true (by decide +kernel) _).mono ?_
  rintro e w1 ⟨rfl, d1⟩
  go_wp2_with fail
  go_ret2
  exact ⟨rfl, ((Below.refl _ _).alloc (Nat.le_refl _) _).trans (d1.mono (by simp))⟩
end Go.Proofs.Ytmpedmiehhnniaa
