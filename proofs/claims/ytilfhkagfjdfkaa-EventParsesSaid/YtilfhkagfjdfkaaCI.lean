/- The number whose bytes stand next: the program's Take, the document's Number. -/
import Derived.Test.YtilfhkagfjdfkaaCH
set_option linter.unusedVariables false
set_option linter.unusedSimpArgs false
namespace Go.Proofs.Ytilfhkagfjdfkaa
open Go.RowKit

/-- The number of bytes, the lowest first. -/
def numL : List UInt8 → Nat
  | [] => 0
  | c :: l => c.toNat + 256 * numL l
theorem numL_lt : ∀ l : List UInt8, numL l < 256 ^ l.length
  | [] => by simp [numL]
  | c :: l => by
    have h := numL_lt l
    have hc := byte_lt c
    simp only [numL, List.length_cons, Nat.pow_succ]
    omega
theorem numL_snoc : ∀ (l : List UInt8) (c : UInt8), numL (l ++ [c]) = numL l + 256 ^ l.length * c.toNat
  | [], c => by simp [numL]
  | d :: l, c => by
    simp only [List.cons_append, numL, numL_snoc l c, List.length_cons, Nat.pow_succ]
    rw [Nat.mul_add, Nat.mul_comm (256 ^ l.length) 256, Nat.mul_assoc]
    omega
theorem numL_byt : ∀ k n, numL (byt k n) = n % 256 ^ k
  | 0, n => by simp [byt, numL]; omega
  | k + 1, n => by
    simp only [byt, numL, numL_byt k (n / 256)]
    have e : (UInt8.ofNat (n % 256)).toNat = n % 256 := by rw [UInt8.toNat_ofNat']; omega
    rw [e, Nat.pow_succ, Nat.mul_comm (256 ^ k) 256, Nat.mod_mul]
theorem or_shift (a c k : Nat) (ha : a < 256 ^ k) (hc : c < 256) (hk : k < 8) : bits .or .u64 (a : Int) (IntKind.u64.wrap ((c : Int) * 2 ^ (8 * k))) = ((a + 256 ^ k * c : Nat) : Int) := by
  have eP : (256 : Nat) ^ k = 2 ^ (8 * k) := by rw [show (256 : Nat) = 2 ^ 8 from rfl, ← Nat.pow_mul]
  have hP : 2 ^ (8 * k) ≤ 2 ^ 56 := Nat.pow_le_pow_right (by omega) (by omega)
  have e0 : ((2 : Int) ^ (8 * k)) = ((2 ^ (8 * k) : Nat) : Int) := by simp
  rw [eP] at ha ⊢
  rw [e0]
  have hor := Nat.two_pow_add_eq_or_of_lt ha c
  have hm : c * 2 ^ (8 * k) ≤ 255 * 2 ^ 56 := Nat.mul_le_mul (by omega) hP
  rw [Nat.mul_comm (2 ^ (8 * k)) c] at hor ⊢
  rw [← Int.natCast_mul]
  generalize hY : c * 2 ^ (8 * k) = Y at *
  generalize 2 ^ (8 * k) = P at *
  have h56 : (2 : Nat) ^ 56 = 72057594037927936 := by decide
  have e1 : IntKind.u64.wrap (Y : Int) = (Y : Int) := by
    simp only [IntKind.wrap, IntKind.signed, IntKind.bits, Bool.false_and, Bool.false_eq_true, if_false, show (2 : Int) ^ 64 = 18446744073709551616 from rfl]
    omega
  rw [e1]
  have h1 : (BitVec.ofInt 64 (a : Int)).toNat = a := by
    rw [BitVec.ofInt_natCast, BitVec.toNat_ofNat]; exact Nat.mod_eq_of_lt (by omega)
  have h2 : (BitVec.ofInt 64 (Y : Int)).toNat = Y := by
    rw [BitVec.ofInt_natCast, BitVec.toNat_ofNat]; exact Nat.mod_eq_of_lt (by omega)
  show IntKind.u64.wrap ((BitVec.ofInt 64 (a : Int) ||| BitVec.ofInt 64 (Y : Int)).toNat : Int) = _
  rw [BitVec.toNat_or, h1, h2, Nat.or_comm, ← hor]
  simp only [IntKind.wrap, IntKind.signed, IntKind.bits, Bool.false_and, Bool.false_eq_true, if_false, show (2 : Int) ^ 64 = 18446744073709551616 from rfl]
  omega
section
variable {w : World} {X S0 : Nat} {s : ByteArray} {p : Nat}
set_option maxHeartbeats 1000000 in
theorem take_any {torn : Bool} (h : Src w X S0 s p torn) (hs : s.size ≤ 4611686018427387904) (v : Int) : Calls Try.prog 41 #[.pointer (some ⟨X, 0, none⟩), .int .i64 v] w fun e w' => e = .returned (.int .u64 (numL (textS s p (wid v) torn).data.toList)) ∧ Src w' X S0 s (textP s p (wid v) torn) (bad s p (wid v) torn) ∧ Only X w w' := by
  have hw := wid_bd v
  have ht := text_any h hs (wid v : Int)
  rw [Int.toNat_natCast] at ht
  have hz : (textS s p (wid v) torn).size ≤ 8 := by
    unfold textS
    cases bad s p (wid v) torn
    · show (s.extract p (p + wid v)).size ≤ 8
      rw [ByteArray.size_extract]; omega
    · exact Nat.zero_le _
  generalize textS s p (wid v) torn = z at ht hz
  have HT := Lib.hid ht
  clear ht
  go_enter Try.func41, Try.ntmps41
  go_wp2_with (first | (go_at_call 45; refine (fit_any v _).mono ?_; rintro e w' ⟨rfl, rfl⟩) | (go_at_call 52; refine HT.out.mono ?_; rintro e w' ⟨rfl, hsrc, honly⟩))
  go_loop [6, 14] (fun n i => ∃ k : Nat, k ≤ z.size ∧ i = .int .i64 k ∧ n = .int .u64 (numL (z.data.toList.take k))) (fun _ i => z.size - (intOf i).toNat)
  case atStart => exact ⟨0, Nat.zero_le _, rfl, rfl⟩
  case round =>
    obtain ⟨k, hk, rfl, rfl⟩ := hrel
    by_cases hlt : k < z.size
    · have hc := byte_lt z[k]
      go_wp2
      go_round
      case rel =>
        refine ⟨k + 1, by omega, by go_num, val_eq ?_⟩
        have hl : (z.data.toList.take k).length = k := by simp; omega
        have hb := numL_lt (z.data.toList.take k)
        rw [hl] at hb
        rw [or_shift _ _ _ hb hc (by omega), take_snoc z k hlt, numL_snoc, hl]
      case measure => simp [intOf]; omega
    · go_wp2
      go_ret
      exact ⟨ret_eq (by rw [List.take_of_length_le (by simp; omega)]), hsrc, honly⟩
/-- The document's number of bytes. -/
theorem number_any (z : ByteArray) (hz : z.size ≤ 8) (w : World) : Calls Try.prog 42 #[.string z] w fun e w' => e = .returned (.int .u64 (numL z.data.toList)) ∧ w' = w := by
  go_enter Try.func42, Try.ntmps42
  go_wp2
  go_loop [3, 4] (fun n i => ∃ k : Nat, k ≤ z.size ∧ i = .int .i64 ((k : Int) - 1) ∧ n = .int .u64 (numL (z.data.toList.drop k))) (fun _ i => ((intOf i) + 1).toNat)
  case atStart => exact ⟨z.size, Nat.le_refl _, rfl, by rw [List.drop_of_length_le (by simp)]; rfl⟩
  case round =>
    obtain ⟨k, hk, rfl, rfl⟩ := hrel
    by_cases hlt : 0 < k
    · obtain ⟨j, rfl⟩ : ∃ j, k = j + 1 := ⟨k - 1, by omega⟩
      have ej : ((j + 1 : Nat) : Int) - 1 = (j : Int) := by omega
      rw [ej]
      have hj : j < z.size := by omega
      have hc := byte_lt z[j]
      go_wp2
      go_round
      case rel =>
        refine ⟨j, by omega, by go_num, val_eq ?_⟩
        have hl : j < z.data.toList.length := by simpa using hj
        have ed : numL (z.data.toList.drop j) = z[j].toNat + 256 * numL (z.data.toList.drop (j + 1)) := by
          rw [List.drop_eq_getElem_cons hl]; rfl
        have hb := numL_lt (z.data.toList.drop (j + 1))
        have hp : (256 : Nat) ^ (z.data.toList.drop (j + 1)).length ≤ 256 ^ 7 := Nat.pow_le_pow_right (by omega) (by simp; omega)
        have h7 : (256 : Nat) ^ 7 = 72057594037927936 := by decide
        rw [ed]
        generalize numL (z.data.toList.drop (j + 1)) = m at *
        simp only [IntKind.wrap, IntKind.signed, IntKind.bits, Bool.false_and, Bool.false_eq_true, if_false, show (2 : Int) ^ 64 = 18446744073709551616 from rfl]
        omega
      case measure => simp [intOf]
    · obtain rfl : k = 0 := by omega
      go_wp2
      go_ret
      exact ⟨rfl, rfl⟩
end
end Go.Proofs.Ytilfhkagfjdfkaa
