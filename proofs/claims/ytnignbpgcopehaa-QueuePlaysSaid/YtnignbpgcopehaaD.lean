/- The bytes of a number, and the document's sum: what the document's functions answer. -/
import Derived.Test.YtnignbpgcopehaaA
set_option linter.unusedVariables false
set_option linter.unusedSimpArgs false
namespace Go.Proofs.Ytnignbpgcopehaa
open Go.RowKit

/-- The lowest so many bytes of a number. -/
def byt : Nat → Nat → List UInt8
  | 0, _ => []
  | k + 1, n => UInt8.ofNat (n % 256) :: byt k (n / 256)
theorem byt_len : ∀ k n, (byt k n).length = k
  | 0, _ => rfl
  | k + 1, n => by simp [byt, byt_len k]
theorem byt_snoc : ∀ (k n : Nat), byt (k + 1) n = byt k n ++ [UInt8.ofNat (n / 256 ^ k % 256)]
  | 0, n => by simp [byt]
  | k + 1, n => by
    rw [byt, byt_snoc k (n / 256), byt, List.cons_append, Nat.div_div_eq_div_mul, Nat.pow_succ, Nat.mul_comm]
/-- A width that may be. -/
def wid (w : Int) : Nat := if w < 1 then 1 else if 8 < w then 8 else w.toNat
theorem wid_bd (w : Int) : 1 ≤ wid w ∧ wid w ≤ 8 := by unfold wid; split <;> (try split) <;> omega
def str (l : List UInt8) : ByteArray := ⟨l.toArray⟩
theorem str_snoc (l : List UInt8) (c : UInt8) : str l ++ ⟨#[c]⟩ = str (l ++ [c]) := by
  apply ByteArray.ext
  simp [str, ByteArray.data_append]
theorem fit_any (v : Int) (w : World) : Calls Try.prog 36 #[.int .i64 v] w fun e w' => e = .returned (.int .i64 (wid v)) ∧ w = w' := by
  go_enter Try.func36, Try.ntmps36
  go_wp2
  all_goals (go_ret; exact ⟨ret_eq (by unfold wid; (repeat' split) <;> omega), rfl⟩)
theorem conv_one0 (c : Int) (W : World) : (convert 70 9 (.slice (some ⟨W.heap.size, 0, none⟩) 1 1)).run Try.prog (W.alloc (.cells #[.int .u8 c] 5)) = .ok (.string ⟨#[UInt8.ofNat c.toNat]⟩) (W.alloc (.cells #[.int .u8 c] 5)) := by
  have h := run_convert_bytes_arg (P := Try.prog) (W.alloc (.cells #[.int .u8 c] 5)) 70 5 Try.underlying70 Try.underlying5 W.heap.size 0 1 1 [c] rfl (fun i hi => by
    obtain rfl : i = 0 := by omega
    simp) 9 Try.underlying9
  rw [h]
  rfl
end Go.Proofs.Ytnignbpgcopehaa
