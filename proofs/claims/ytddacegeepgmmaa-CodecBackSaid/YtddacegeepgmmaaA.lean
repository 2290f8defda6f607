/- The sum of a text: what codec.Sum answers; sums of texts put together, and of texts that differ in one byte. -/
import Derived.Test.YtddacegeepgmmaaRows
import Derived.Test.YtddacegeepgmmaaProg
import Derived.WalkKit
import Derived.WalkSpells
import Derived.WalkLawsBesides
import Derived.Below
import Derived.Lib.Hide
import Derived.Outline
import Derived.Deep.QuietTactic
import Derived.BigQuiet
set_option linter.unusedVariables false
set_option linter.unusedSimpArgs false
namespace Go.Proofs.Ytddacegeepgmmaa
open Go.RowKit

theorem ret_eq {k : IntKind} {a b : Int} (h : a = b) : Ending.returned (.int k a) = .returned (.int k b) := by rw [h]
theorem val_eq {k : IntKind} {a b : Int} (h : a = b) : Value.int k a = .int k b := by rw [h]
/-- A step of the sum. -/
def stp (n : Nat) (c : UInt8) : Nat := (31 * n + c.toNat) % 4294967296
def sumFrom (n : Nat) (l : List UInt8) : Nat := l.foldl stp n
def sumL (l : List UInt8) : Nat := sumFrom 1 l
theorem take_snoc (s : ByteArray) (k : Nat) (h : k < s.size) : s.data.toList.take (k + 1) = s.data.toList.take k ++ [s[k]] := by
  rw [List.take_succ_eq_append_getElem (by simpa using h)]; rfl
theorem sum_snoc (l : List UInt8) (c : UInt8) : sumL (l ++ [c]) = stp (sumL l) c := by simp [sumL, sumFrom]
theorem sum_lt (l : List UInt8) : sumL l < 4294967296 := by
  rcases List.eq_nil_or_concat l with rfl | ⟨m, c, rfl⟩
  · decide
  · rw [List.concat_eq_append, sum_snoc]; exact Nat.mod_lt _ (by decide)
theorem byte_lt (c : UInt8) : c.toNat < 256 := c.toNat_lt
set_option maxHeartbeats 400000 in
theorem sum_any (s : ByteArray) (w : World) (hs : s.size ≤ 9223372036854775806) :
    Calls Try.prog 10 #[.string s] w fun e w' => e = .returned (.int .u32 (sumL s.data.toList)) ∧ w = w' := by
  go_enter Try.func10, Try.ntmps10
  go_wp2
  go_loop [3, 7] (fun n i => ∃ k : Nat, k ≤ s.size ∧ i = .int .i64 k ∧ n = .int .u32 (sumL (s.data.toList.take k))) (fun _ i => s.size - (intOf i).toNat)
  case atStart => exact ⟨0, Nat.zero_le _, rfl, rfl⟩
  case round =>
    obtain ⟨k, hk, rfl, rfl⟩ := hrel
    have hl := sum_lt (s.data.toList.take k)
    by_cases hlt : k < s.size
    · have HS : Hid (sumL (s.data.toList.take (k + 1)) = stp (sumL (s.data.toList.take k)) s[k]) := by rw [take_snoc s k hlt]; exact sum_snoc _ _
      have hc := byte_lt s[k]
      go_wp2
      go_round
      case rel => exact ⟨k + 1, by omega, by go_num, val_eq (by rw [HS.out]; unfold stp; omega)⟩
      case measure => simp [intOf]; omega
    · go_wp2
      go_ret
      exact ⟨ret_eq (by rw [List.take_of_length_le (by simp; omega)]), rfl⟩

theorem sumFrom_lt (n : Nat) (hn : n < 4294967296) (l : List UInt8) : sumFrom n l < 4294967296 := by
  induction l generalizing n with
  | nil => exact hn
  | cons c l ih => exact ih _ (Nat.mod_lt _ (by decide))
theorem stp_inj {n m : Nat} (hn : n < 4294967296) (hm : m < 4294967296) {c : UInt8} (h : stp n c = stp m c) : n = m := by
  unfold stp at h; omega
theorem sumFrom_inj {l : List UInt8} : ∀ {n m : Nat}, n < 4294967296 → m < 4294967296 → sumFrom n l = sumFrom m l → n = m := by
  induction l with
  | nil => intro n m _ _ h; exact h
  | cons c l ih =>
    intro n m hn hm h
    exact stp_inj hn hm (ih (Nat.mod_lt _ (by decide)) (Nat.mod_lt _ (by decide)) h)
theorem sum_append (a b : List UInt8) : sumL (a ++ b) = sumFrom (sumL a) b := by simp [sumL, sumFrom]
theorem sum_same {a b c : List UInt8} (h : sumL a = sumL b) : sumL (a ++ c) = sumL (b ++ c) := by rw [sum_append, sum_append, h]
theorem sum_spoilt (a b : List UInt8) (c d : UInt8) (h : c ≠ d) : sumL (a ++ [c] ++ b) ≠ sumL (a ++ [d] ++ b) := by
  intro he
  rw [sum_append (a ++ [c]), sum_append (a ++ [d]), sum_append a [c], sum_append a [d]] at he
  have := sumFrom_inj (sumFrom_lt _ (sum_lt a) _) (sumFrom_lt _ (sum_lt a) _) he
  simp only [sumFrom, List.foldl_cons, List.foldl_nil, stp] at this
  have h1 := byte_lt c
  have h2 := byte_lt d
  have : c.toNat = d.toNat := by omega
  exact h (UInt8.toNat.inj this)
end Go.Proofs.Ytddacegeepgmmaa
