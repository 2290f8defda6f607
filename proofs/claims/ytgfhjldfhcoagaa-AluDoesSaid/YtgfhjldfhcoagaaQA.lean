/- What the document's functions of AluDoes answer. -/
import Derived.Test.YtgfhjldfhcoagaaRows
import Derived.Test.YtgfhjldfhcoagaaProg
import Derived.Test.YtgfhjldfhcoagaaQM
import Derived.WalkKit
import Derived.WalkSpells
import Derived.WalkLawsBesides
import Derived.Below
import Derived.Lib.Hide
import Derived.Outline
set_option linter.unusedVariables false
set_option linter.unusedSimpArgs false
namespace Go.Proofs.Ytgfhjldfhcoagaa
open Go.RowKit

theorem ret_eq {k : IntKind} {a b : Int} (h : a = b) : Ending.returned (.int k a) = .returned (.int k b) := by rw [h]
def Word (a : Nat) : Int := sw a % 18446744073709551616
theorem word_any (a : Nat) (ha : a < 18446744073709551616) (w : World) :
    Calls Try.prog 50 #[.int .u64 a] w fun e w' => e = .returned (.int .u64 (Word a)) ∧ w = w' := by
  have h1 := and_low a ha
  by_cases hc : a % 4294967296 < 2147483648
  · have h2 : ((((a % 4294967296 : Nat) : Int) / 2147483648) == 1) = false := by simp; omega
    go_enter Try.func50, Try.ntmps50
    go_wp2_with fail
    go_ret
    exact ⟨ret_eq (by unfold Word sw; rw [if_pos hc]; omega), rfl⟩
  · have h2 : ((((a % 4294967296 : Nat) : Int) / 2147483648) == 1) = true := by simp; omega
    have h3 : bits .or .u64 ((a : Int) % 4294967296) 18446744069414584320 = (a : Int) % 4294967296 + 18446744069414584320 := by
      have h := or_high (a % 4294967296) (by omega)
      have e : ((a % 4294967296 : Nat) : Int) = (a : Int) % 4294967296 := by omega
      rw [e] at h; rw [h]; omega
    go_enter Try.func50, Try.ntmps50
    go_wp2_with fail
    go_ret
    exact ⟨ret_eq (by unfold Word sw; rw [if_neg hc]; omega), rfl⟩
theorem neg_any (a : Nat) (ha : a < 18446744073709551616) (w : World) :
    Calls Try.prog 53 #[.int .u64 a] w fun e w' => e = .returned (.bool (decide (9223372036854775808 ≤ a))) ∧ w = w' := by
  by_cases hc : 9223372036854775808 ≤ a
  · have h2 : (((a : Int) / 9223372036854775808) == 1) = true := by simp; omega
    go_enter Try.func53, Try.ntmps53
    go_wp2_with fail
    go_ret
    exact ⟨by simp [hc], rfl⟩
  · have h2 : (((a : Int) / 9223372036854775808) == 1) = false := by simp; omega
    go_enter Try.func53, Try.ntmps53
    go_wp2_with fail
    go_ret
    exact ⟨by simp [hc], rfl⟩
def right (a n : Nat) : Int := (sg a / ((2 ^ n : Nat) : Int)) % 18446744073709551616
theorem right_any (a n : Nat) (ha : a < 18446744073709551616) (hn : n < 64) (w : World) :
    Calls Try.prog 49 #[.int .u64 a, .int .u64 n] w fun e w' => e = .returned (.int .u64 (right a n)) ∧ w = w' := by
  go_enter Try.func49, Try.ntmps49
  go_wp2_with fail
  go_loop [0, 1] (fun x i => ∃ k b : Nat, k ≤ n ∧ b < 18446744073709551616 ∧ x = .int .u64 b ∧ i = .int .u64 k ∧ sg b = sg a / ((2 ^ (n - k) : Nat) : Int)) (fun _ i => (intOf i).toNat)
  case atStart => exact ⟨n, a, Nat.le_refl _, ha, rfl, rfl, by simp⟩
  case round =>
    obtain ⟨k, b, hk, hb, rfl, rfl, hs⟩ := hrel
    by_cases hlt : 0 < k
    · have h1 := and_top b hb
      have h2 := or_top (b / 2) (by omega) (if b < 9223372036854775808 then 0 else 9223372036854775808) (by split <;> simp)
      have HS := Lib.hid hs
      clear hs
      go_wp2_with fail
      go_round
      case rel => 
        refine ⟨k - 1, b / 2 + (if b < 9223372036854775808 then 0 else 9223372036854775808), by omega, by split <;> omega, ?_, ?_, ?_⟩
        · have e : (b : Int) / 2 = ((b / 2 : Nat) : Int) := by omega
          rw [e, h2]
        · go_num
        · rw [sg_half b hb, HS.out, div_step]; congr 4; omega
      case measure => simp [intOf]; omega
    · obtain rfl : k = 0 := by omega
      go_wp2_with fail
      go_ret
      exact ⟨ret_eq (by unfold right; rw [show n = n - 0 from rfl, ← hs, (sg_bd b hb).2.2]), rfl⟩
end Go.Proofs.Ytgfhjldfhcoagaa
