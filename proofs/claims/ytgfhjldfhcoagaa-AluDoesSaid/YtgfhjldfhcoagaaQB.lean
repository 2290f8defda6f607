/- Quotients bit by bit. -/
import Derived.Test.YtgfhjldfhcoagaaQA
import Derived.WalkSmall
set_option linter.unusedVariables false
set_option linter.unusedSimpArgs false
namespace Go.Proofs.Ytgfhjldfhcoagaa
open Go.RowKit
theorem val_eq {k : IntKind} {a b : Int} (h : a = b) : Value.int k a = .int k b := by rw [h]
theorem tup_eq {a b c d : Int} (h1 : a = b) (h2 : c = d) : Ending.returned (.tuple #[.int .u64 a, .int .u64 c]) = .returned (.tuple #[.int .u64 b, .int .u64 d]) := by rw [h1, h2]
theorem quo_none (a : Nat) (w : World) : Calls Try.prog 55 #[.int .u64 a, .int .u64 0] w fun e w' => e = .returned (.tuple #[.int .u64 18446744073709551615, .int .u64 a]) ∧ w = w' := by
  go_enter Try.func55, Try.ntmps55
  go_wp2_with fail
  go_ret2
  exact ⟨rfl, rfl⟩
theorem quo_any (a y : Nat) (ha : a < 18446744073709551616) (hy : y < 18446744073709551616) (h0 : 0 < y) (w : World) :
    Calls Try.prog 55 #[.int .u64 a, .int .u64 y] w fun e w' => e = .returned (.tuple #[.int .u64 (a / y : Nat), .int .u64 (a % y : Nat)]) ∧ w = w' := by
  have hne : ((y : Int) == 0) = false := by simp; omega
  go_enter Try.func55, Try.ntmps55
  go_wp2_with fail
  go_loop [6, 7, 8] (fun q r i => ∃ h Q R : Nat, h ≤ 64 ∧ q = .int .u64 (Q * 2 ^ h : Nat) ∧ r = .int .u64 R ∧ i = .int .i64 ((h : Int) - 1) ∧ R < y ∧ a / 2 ^ h = Q * y + R) (fun _ _ i => (intOf i + 1).toNat)
  case atStart => exact ⟨64, 0, 0, Nat.le_refl _, rfl, rfl, rfl, h0, by rw [Nat.div_eq_of_lt (show a < 2 ^ 64 from ha)]; simp⟩
  case round =>
    obtain ⟨h, Q, R, hh, rfl, rfl, rfl, hR, hs⟩ := hrel
    by_cases hlt : 0 < h
    · obtain ⟨i, rfl⟩ : ∃ i, h = i + 1 := ⟨h - 1, by omega⟩
      have hq := quo_small ha h0 hs
      have k1 := bit_and a i ha
      have k2 := or_quo Q i (by omega) hq
      have hb : a / 2 ^ i % 2 < 2 := Nat.mod_lt _ (by decide)
      have l1 := fun hv => left_yes (i := i) hs hv
      have l2 := left_no (i := i) hs
      have HS := Lib.hid (And.intro l1 l2)
      clear hs l1 l2
      generalize hbit : a / 2 ^ i % 2 = b at k1 hb HS
      have HB := Lib.hid hbit
      clear hbit
      by_cases hov : 9223372036854775808 ≤ R
      · have e1 : ((R : Int) / 9223372036854775808 == 1) = true := by simp; omega
        have e2 : IntKind.u64.wrap ((R : Int) * 2) = ((2 * R - 18446744073709551616 : Nat) : Int) := by rw [IntKind.wrap_u64]; omega
        have e3 := or_bit (2 * R - 18446744073709551616) b (by omega) (by omega) hb
        go_wp2_with fail
        go_round
        case rel => exact ⟨i, 2 * Q + 1, 2 * R + b - y, by omega, val_eq (by simp), val_eq (by rw [IntKind.wrap_u64]; omega), by go_num, by omega, HS.out.1 (by omega)⟩
        case measure => simp [intOf]
      · have e1 : ((R : Int) / 9223372036854775808 == 1) = false := by simp; omega
        have e3 : bits .or .u64 ((R : Int) * 2) (b : Int) = (R : Int) * 2 + b := by
          have h := or_bit (2 * R) b (by omega) (by omega) hb
          have c : ((2 * R : Nat) : Int) = (R : Int) * 2 := by omega
          rw [c] at h; rw [h]; omega
        by_cases hv : y ≤ 2 * R + b
        · go_wp2_with fail
          go_round
          case rel => exact ⟨i, 2 * Q + 1, 2 * R + b - y, by omega, val_eq (by simp), val_eq (by omega), by go_num, by omega, HS.out.1 (by omega)⟩
          case measure => simp [intOf]
        · go_wp2_with fail
          go_round
          case rel => exact ⟨i, 2 * Q, 2 * R + b, by omega, val_eq (by rw [quo_at]), val_eq (by omega), by go_num, by omega, HS.out.2⟩
          case measure => simp [intOf]
    · obtain rfl : h = 0 := by omega
      have hd : a / y = Q ∧ a % y = R := by
        rw [Nat.pow_zero, Nat.div_one] at hs
        constructor
        · rw [hs, Nat.mul_comm, Nat.mul_add_div h0, Nat.div_eq_of_lt hR, Nat.add_zero]
        · rw [hs, Nat.mul_comm, Nat.mul_add_mod, Nat.mod_eq_of_lt hR]
      have HD := Lib.hid hd
      clear hs hd
      go_wp2_with fail
      go_ret2
      exact ⟨tup_eq (by rw [← HD.out.1]; simp) (by rw [← HD.out.2]; simp), rfl⟩

theorem size_any (a : Nat) (ha : a < 18446744073709551616) (w : World) :
    Calls Try.prog 59 #[.int .u64 a] w fun e w' => e = .returned (.int .u64 ((sg a).natAbs : Nat)) ∧ w = w' := by
  by_cases hc : 9223372036854775808 ≤ a
  · go_enter Try.func59, Try.ntmps59
    go_wp2_with (go_at_call 53; refine (neg_any a ha _).mono ?_; rintro e w' ⟨rfl, rfl⟩)
    go_ret
    exact ⟨ret_eq (by rw [IntKind.wrap_u64]; unfold sg; rw [if_neg (by omega)]; omega), rfl⟩
  · go_enter Try.func59, Try.ntmps59
    go_wp2_with (go_at_call 53; refine (neg_any a ha _).mono ?_; rintro e w' ⟨rfl, rfl⟩)
    go_ret
    exact ⟨ret_eq (by unfold sg; rw [if_pos (by omega)]; omega), rfl⟩
theorem sg_abs (a : Nat) (ha : a < 18446744073709551616) : (sg a).natAbs < 18446744073709551616 ∧ (0 < a → 0 < (sg a).natAbs) := by
  unfold sg; split <;> omega
theorem sg_sign (a : Nat) (ha : a < 18446744073709551616) : sg a = if 9223372036854775808 ≤ a then -(((sg a).natAbs : Nat) : Int) else (((sg a).natAbs : Nat) : Int) := by
  unfold sg; split <;> split <;> omega
theorem signed_none (a : Nat) (w : World) : Calls Try.prog 54 #[.int .u64 a, .int .u64 0] w fun e w' => e = .returned (.tuple #[.int .u64 18446744073709551615, .int .u64 a]) ∧ w = w' := by
  go_enter Try.func54, Try.ntmps54
  go_wp2_with fail
  go_ret2
  exact ⟨rfl, rfl⟩
theorem tdiv_signs (A Y : Nat) (p q : Bool) : (if p then -(A : Int) else A).tdiv (if q then -(Y : Int) else Y) = if p = q then ((A / Y : Nat) : Int) else -((A / Y : Nat) : Int) := by
  cases p <;> cases q <;> simp [Int.neg_tdiv, Int.tdiv_neg] <;> rfl
theorem tmod_signs (A Y : Nat) (p q : Bool) : (if p then -(A : Int) else A).tmod (if q then -(Y : Int) else Y) = if p then -((A % Y : Nat) : Int) else ((A % Y : Nat) : Int) := by
  cases p <;> cases q <;> simp [Int.neg_tmod, Int.tmod_neg] <;> rfl
theorem signed_any (a y : Nat) (ha : a < 18446744073709551616) (hy : y < 18446744073709551616) (h0 : 0 < y) (w : World) :
    Calls Try.prog 54 #[.int .u64 a, .int .u64 y] w fun e w' => e = .returned (.tuple #[.int .u64 ((sg a).tdiv (sg y) % 18446744073709551616), .int .u64 ((sg a).tmod (sg y) % 18446744073709551616)]) ∧ w = w' := by
  have hne : ((y : Int) == 0) = false := by simp; omega
  have h1 := (sg_abs a ha).1
  have h2 := (sg_abs y hy).1
  have h3 := (sg_abs y hy).2 h0
  have e1 := sg_sign a ha
  have e2 := sg_sign y hy
  have E : ∀ A Y : Nat, A = (sg a).natAbs → Y = (sg y).natAbs → (sg a).tdiv (sg y) = (if decide (9223372036854775808 ≤ a) = decide (9223372036854775808 ≤ y) then ((A / Y : Nat) : Int) else -((A / Y : Nat) : Int)) ∧ (sg a).tmod (sg y) = if decide (9223372036854775808 ≤ a) = true then -((A % Y : Nat) : Int) else ((A % Y : Nat) : Int) := by
    intro A Y hA hY
    rw [← hA] at e1
    rw [← hY] at e2
    have t1 := tdiv_signs A Y (decide (9223372036854775808 ≤ a)) (decide (9223372036854775808 ≤ y))
    have t2 := tmod_signs A Y (decide (9223372036854775808 ≤ a)) (decide (9223372036854775808 ≤ y))
    simp only [decide_eq_true_eq, ← e1, ← e2] at t1 t2
    exact ⟨t1, by simpa using t2⟩
  have HE := Lib.hid (E _ _ rfl rfl)
  clear E e1 e2
  have qa : (sg a).natAbs / (sg y).natAbs < 18446744073709551616 := Nat.lt_of_le_of_lt (Nat.div_le_self _ _) h1
  have ra : (sg a).natAbs % (sg y).natAbs < 18446744073709551616 := Nat.lt_of_le_of_lt (Nat.mod_le _ _) h1
  have c1 := fun w => quo_any _ _ h1 h2 h3 w
  generalize (sg a).natAbs / (sg y).natAbs = D at qa c1 HE
  generalize (sg a).natAbs % (sg y).natAbs = M at ra c1 HE
  have C1 := Lib.hid c1
  clear c1
  by_cases hp : 9223372036854775808 ≤ a <;> by_cases hq : 9223372036854775808 ≤ y
  all_goals
    go_enter Try.func54, Try.ntmps54
    go_wp2_with (first | (go_at_call 59; refine (size_any _ (by assumption) _).mono ?_; rintro e w' ⟨rfl, rfl⟩) | (go_at_call 55; refine (C1.out _).mono ?_; rintro e w' ⟨rfl, rfl⟩) | (go_at_call 53; refine (neg_any _ (by assumption) _).mono ?_; rintro e w' ⟨rfl, rfl⟩))
    go_ret2
    refine ⟨tup_eq ?_ ?_, rfl⟩
  all_goals
    have h := HE.out
    simp only [hp, hq, decide_true, decide_false, if_true, if_false, Bool.true_eq_false, Bool.false_eq_true] at h
    first | rw [h.1] | rw [h.2]
    first | omega | rw [IntKind.wrap_u64] | (rw [IntKind.wrap_u64]; omega)
end Go.Proofs.Ytgfhjldfhcoagaa
