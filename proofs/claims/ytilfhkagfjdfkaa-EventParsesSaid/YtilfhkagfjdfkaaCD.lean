/- The bytes of a number, and the document's sum: what the document's functions answer. -/
import Derived.Test.YtilfhkagfjdfkaaCA
import Derived.WalkSmall
import Derived.Laws.BytesArg
set_option linter.unusedVariables false
set_option linter.unusedSimpArgs false
namespace Go.Proofs.Ytilfhkagfjdfkaa
open Go.RowKit

/-- The lowest so many bytes of a number. -/
def byt : Nat → Nat → List UInt8
  | 0, _ => []
  | k + 1, n => UInt8.ofNat (n % 256) :: byt k (n / 256)
theorem byt_len : ∀ k n, (byt k n).length = k
  | 0, _ => rfl
  | k + 1, n => by simp [byt, byt_len k]
theorem byt_snoc : ∀ (k n : Nat), byt (k + 1) n = byt k n ++ [UInt8.ofNat (n / 256 ^ k % 256)]
  | 0, n => by simp [byt]
  | k + 1, n => by
    rw [byt, byt_snoc k (n / 256), byt, List.cons_append, Nat.div_div_eq_div_mul, Nat.pow_succ, Nat.mul_comm]
/-- A width that may be. -/
def wid (w : Int) : Nat := if w < 1 then 1 else if 8 < w then 8 else w.toNat
theorem wid_bd (w : Int) : 1 ≤ wid w ∧ wid w ≤ 8 := by unfold wid; split <;> (try split) <;> omega
def str (l : List UInt8) : ByteArray := ⟨l.toArray⟩
theorem str_snoc (l : List UInt8) (c : UInt8) : str l ++ ⟨#[c]⟩ = str (l ++ [c]) := by
  apply ByteArray.ext
  simp [str, ByteArray.data_append]
theorem width_any (v : Int) (w : World) : Calls Try.prog 46 #[.int .i64 v] w fun e w' => e = .returned (.int .i64 (wid v)) ∧ w = w' := by
  by_cases h1 : v < 1
  · go_enter Try.func46, Try.ntmps46
    go_wp2
    go_ret
    exact ⟨ret_eq (by unfold wid; (repeat' split) <;> omega), rfl⟩
  · by_cases h2 : 8 < v
    · go_enter Try.func46, Try.ntmps46
      go_wp2
      go_ret
      exact ⟨ret_eq (by unfold wid; (repeat' split) <;> omega), rfl⟩
    · go_enter Try.func46, Try.ntmps46
      go_wp2
      go_ret
      exact ⟨ret_eq (by unfold wid; (repeat' split) <;> omega), rfl⟩
theorem fit_any (v : Int) (w : World) : Calls Try.prog 45 #[.int .i64 v] w fun e w' => e = .returned (.int .i64 (wid v)) ∧ w = w' := by
  go_enter Try.func45, Try.ntmps45
  go_wp2
  all_goals (go_ret; exact ⟨ret_eq (by unfold wid; (repeat' split) <;> omega), rfl⟩)
theorem conv_one0 (c : Int) (W : World) : (convert 53 9 (.slice (some ⟨W.heap.size, 0, none⟩) 1 1)).run Try.prog (W.alloc (.cells #[.int .u8 c] 5)) = .ok (.string ⟨#[UInt8.ofNat c.toNat]⟩) (W.alloc (.cells #[.int .u8 c] 5)) := by
  have h := run_convert_bytes_arg (P := Try.prog) (W.alloc (.cells #[.int .u8 c] 5)) 53 5 Try.underlying53 Try.underlying5 W.heap.size 0 1 1 [c] rfl (fun i hi => by
    obtain rfl : i = 0 := by omega
    simp) 9 Try.underlying9
  rw [h]
  rfl
set_option maxHeartbeats 800000 in
theorem bytes_any (n : Nat) (v : Int) (hn : n < 18446744073709551616) (w : World) :
    Calls Try.prog 32 #[.int .u64 n, .int .i64 v] w fun e w' => e = .returned (.string (str (byt (wid v) n))) ∧ Below w.heap.size w w' := by
  have hw := wid_bd v
  go_enter Try.func32, Try.ntmps32
  go_wp2
  go_loopw [0, 5, 6] (fun m s i wr => ∃ j : Nat, j ≤ wid v ∧ m = .int .u64 (n / 256 ^ j : Nat) ∧ s = .string (str (byt j n)) ∧ i = .int .i64 j ∧ Below w.heap.size w wr) (fun _ _ i _ => wid v - (intOf i).toNat)
  case atStart => exact ⟨0, Nat.zero_le _, by simp, rfl, rfl, Below.refl _ _⟩
  case round =>
    obtain ⟨j, hj, rfl, rfl, rfl, bel⟩ := hrel
    have hq : n / 256 ^ j < 18446744073709551616 := Nat.lt_of_le_of_lt (Nat.div_le_self _ _) hn
    have e1 := byt_snoc j n
    have e2 : n / 256 ^ (j + 1) = n / 256 ^ j / 256 := by rw [Nat.pow_succ, Nat.div_div_eq_div_mul]
    have HE := Lib.hid (And.intro e1 e2)
    have hz := bel.size
    clear e1 e2
    generalize hm : n / 256 ^ j = m at hq HE
    have HB := Lib.hid bel
    clear bel hm
    by_cases hlt : j < wid v
    · have r1 : (convert 53 9 (.slice (some ⟨wr.heap.size, 0, none⟩) 1 1)).run Try.prog (wr.alloc (.cells #[.int .u8 ((m : Int) % 256)] 5)) = .ok (.string ⟨#[UInt8.ofNat (m % 256)]⟩) (wr.alloc (.cells #[.int .u8 ((m : Int) % 256)] 5)) := by
        have h := conv_one0 ((m : Int) % 256) wr
        have e : ((m : Int) % 256).toNat = m % 256 := by omega
        rw [e] at h
        exact h
      have hsz : ¬ (9223372036854775807 < (str (byt j n)).size + 1) := by
        have : (str (byt j n)).size = j := by simp [str, ByteArray.size, byt_len]
        omega
      go_wp2_with (go_at_call 46; refine (width_any v _).mono ?_; rintro e w' ⟨rfl, rfl⟩)
      go_roundw
      case rel =>
        have e := HE.out
        exact ⟨j + 1, by omega, val_eq (by rw [e.2]; omega), congrArg Value.string (by rw [str_snoc, e.1]), by go_num, HB.out.alloc hz _⟩
      case measure => simp [intOf]; omega
    · have hj2 : wid v = j := by omega
      have HJ := Lib.hid hj2
      clear hj2
      go_wp2_with (go_at_call 46; refine (width_any v _).mono ?_; rintro e w' ⟨rfl, rfl⟩)
      go_ret
      exact ⟨by rw [HJ.out]; rfl, HB.out⟩
end Go.Proofs.Ytilfhkagfjdfkaa
