/- The document's digits of a number. -/
import Derived.Test.YtgicehhenahfpaaDoorE
import Derived.Test.YtgicehhenahfpaaDoorLn
import Derived.WalkSmall
import Derived.Laws.BytesArg
import Derived.Lib.ItoaNum
set_option linter.unusedVariables false
set_option linter.unusedSimpArgs false
namespace Go.Proofs.YtgicehhenahfpaaDoor
open Go.RowKit
def st (l : List UInt8) : ByteArray := ⟨l.toArray⟩
theorem st_cons (c : UInt8) (l : List UInt8) : (⟨#[c]⟩ : ByteArray) ++ st l = st (c :: l) := by
  apply ByteArray.ext
  simp [st, ByteArray.data_append]
theorem st_app (a b : List UInt8) : st a ++ st b = st (a ++ b) := by
  apply ByteArray.ext
  simp [st, ByteArray.data_append]
theorem st_size (l : List UInt8) : (st l).size = l.length := by simp [st, ByteArray.size]
theorem st_data (s : ByteArray) : st s.data.toList = s := by simp [st]
theorem st_inj {a b : List UInt8} (h : st a = st b) : a = b := by
  have := congrArg (fun x => x.data.toList) h
  simpa [st] using this
theorem dd_small {m : Nat} (h : m < 10) : Lib.decDigits m = [UInt8.ofNat (48 + m % 10)] := by rw [Lib.decDigits, dif_pos h, Nat.mod_eq_of_lt h]
theorem dd_step {m : Nat} (h : ¬ m < 10) : Lib.decDigits m = Lib.decDigits (m / 10) ++ [UInt8.ofNat (48 + m % 10)] := by rw [Lib.decDigits, dif_neg h]
theorem conv_one (c : UInt8) (W : World) : (convert 69 9 (.slice (some ⟨W.heap.size, 0, none⟩) 1 1)).run Tryd.prog (W.alloc (.cells #[.int .u8 c.toNat] 5)) = .ok (.string ⟨#[c]⟩) (W.alloc (.cells #[.int .u8 c.toNat] 5)) := by
  have h := run_convert_bytes_arg (P := Tryd.prog) (W.alloc (.cells #[.int .u8 c.toNat] 5)) 69 5 Tryd.underlying69 Tryd.underlying5 W.heap.size 0 1 1 [(c.toNat : Int)] rfl (fun i hi => by
    obtain rfl : i = 0 := by omega
    simp) 9 Tryd.underlying9
  rw [h]
  simp [strOfNums]
theorem digs_len {n : Nat} (hn : n < 18446744073709551616) : (Lib.decDigits n).length ≤ 20 := by
  have : ∀ k m : Nat, m < 10 ^ (k + 1) → (Lib.decDigits m).length ≤ k + 1 := by
    intro k
    induction k with
    | zero =>
      intro m hm
      rw [dd_small (by simpa using hm)]
      simp
    | succ k ih =>
      intro m hm
      by_cases h : m < 10
      · rw [dd_small h]; simp
      · rw [dd_step h, List.length_append]
        have := ih (m / 10) (by rw [Nat.pow_succ] at hm; omega)
        simp
        omega
  exact this 19 n (by omega)
set_option maxHeartbeats 1000000 in
theorem digits_any (n : Nat) (hn : n < 18446744073709551616) (w : World) : Calls Tryd.prog 29 #[.int .u64 n] w fun e w' => e = .returned (.string (st (Lib.decDigits n))) ∧ Below w.heap.size w w' := by
  have hln := digs_len hn
  go_enter Tryd.func29, Tryd.ntmps29
  go_wp2_with fail
  go_loopw [0, 3] (fun x s wr => ∃ (m : Nat) (t : List UInt8), m < 18446744073709551616 ∧ x = .int .u64 m ∧ s = .string (st t) ∧ Lib.decDigits m ++ t = Lib.decDigits n ∧ Below w.heap.size w wr) (fun x _ _ => (intOf x).toNat)
  case atStart => exact ⟨n, [], hn, rfl, rfl, by simp, Below.refl _ _⟩
  case round =>
    obtain ⟨m, t, hm, rfl, rfl, hd, hb⟩ := hrel
    have ht : t.length ≤ 20 := by
      have := congrArg List.length hd
      rw [List.length_append] at this
      omega
    have k1 : (0 : Int) ≤ (m : Int) := Int.natCast_nonneg _
    obtain ⟨c, hc0, hx⟩ : ∃ c : UInt8, c = UInt8.ofNat (48 + m % 10) ∧ (48 + (m : Int) % 10) = (c.toNat : Int) := ⟨_, rfl, by rw [UInt8.toNat_ofNat']; omega⟩
    have hc := UInt8.toNat_lt c
    have r1 := conv_one c wr
    have hadd := st_cons c t
    have h63 : ¬ 9223372036854775807 < 1 + (st t).size := by rw [st_size]; omega
    have HB := Lib.hid (hb.alloc hb.size (.cells #[.int .u8 c.toNat] 5))
    have HC := Lib.hid (And.intro hc0 hd)
    clear hc0 hd hb hln
    by_cases h10 : m < 10
    · have hz : (m : Int) / 10 = 0 := by omega
      have HE : Hid (st (c :: t) = st (Lib.decDigits n)) := Lib.hid (by rw [← HC.out.2, dd_small h10, HC.out.1]; rfl)
      go_wp2_with fail
      go_ret
      exact ⟨by rw [← HE.out]; rfl, HB.out⟩
    · have hz : ((m : Int) / 10 == 0) = false := beq_eq_false_iff_ne.2 (by omega)
      go_wp2_with fail
      go_roundw
      case rel => exact ⟨m / 10, c :: t, by omega, by first | go_num | exact val_eq (by omega), rfl, by rw [← HC.out.2, dd_step h10, HC.out.1]; simp, HB.out⟩
      case measure => simp [intOf]; omega
end Go.Proofs.YtgicehhenahfpaaDoor
