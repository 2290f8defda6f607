/- Bytes laid and read back (lists alone). -/
import Derived.Test.YtjdedgfbonlmkaaR
set_option linter.unusedVariables false
set_option linter.unusedSimpArgs false
namespace Go.Proofs.Ytjdedgfbonlmkaa
open Go.RowKit
theorem lay_far (a x i : Nat) : ∀ (n : Nat) (l : List UInt8), (i < a ∨ a + n ≤ i) → (lay l a x n)[i]? = l[i]?
  | 0, l, h => rfl
  | n + 1, l, h => by
    show (lay (l.set (a + n) (byteN x n)) a x n)[i]? = _
    rw [lay_far a x i n _ (by omega), List.getElem?_set, if_neg (by omega)]
theorem lay_at (a x k : Nat) : ∀ (n : Nat) (l : List UInt8), k < n → a + n ≤ l.length → (lay l a x n)[a + k]? = some (byteN x k)
  | 0, l, h, h2 => by omega
  | n + 1, l, h, h2 => by
    show (lay (l.set (a + n) (byteN x n)) a x n)[a + k]? = _
    by_cases e : k = n
    · subst e
      rw [lay_far a x (a + k) k _ (by omega), List.getElem?_set, if_pos rfl, if_pos (by omega)]
    · exact lay_at a x k n _ (by omega) (by simp; omega)
theorem lay_take (l : List UInt8) (a x n : Nat) : (lay l a x n).take a = l.take a := by
  apply List.ext_getElem?
  intro i
  by_cases h : i < a
  · rw [List.getElem?_take, if_pos h, List.getElem?_take, if_pos h, lay_far a x i n l (.inl h)]
  · rw [List.getElem?_take, if_neg h, List.getElem?_take, if_neg h]
theorem lay_drop (l : List UInt8) (a x n : Nat) : (lay l a x n).drop (a + n) = l.drop (a + n) := by
  apply List.ext_getElem?
  intro i
  rw [List.getElem?_drop, List.getElem?_drop, lay_far a x (a + n + i) n l (.inr (by omega))]
theorem at8_lay (l : List UInt8) (a x n k : Nat) (hk : k < n) (h : a + n ≤ l.length) : at8 (lay l a x n) (a + k) = x / 256 ^ k % 256 := by
  rw [at8, List.getD, lay_at a x k n l hk h]
  have := byteN_val x k
  show (byteN x k).toNat = _
  omega
theorem num_eq {l : List UInt8} {a x : Nat} : ∀ n, (∀ k, k < n → at8 l (a + k) = x / 256 ^ k % 256) → num l a n = x % 256 ^ n
  | 0, _ => by rw [Nat.pow_zero, Nat.mod_one]; rfl
  | n + 1, h => by
    show num l a n + at8 l (a + n) * 256 ^ n = _
    rw [num_eq n (fun k hk => h k (by omega)), h n (by omega), Nat.pow_succ, Nat.mod_mul, Nat.mul_comm]
theorem num_lay (l : List UInt8) (a x n : Nat) (h : a + n ≤ l.length) : num (lay l a x n) a n = x % 256 ^ n :=
  num_eq n fun k hk => at8_lay l a x n k hk h
theorem splice_zero (s : List UInt8) (h : s.length ≤ 4096) : splice (List.replicate 4096 0) 0 s = s ++ List.replicate (4096 - s.length) 0 := by
  show ((List.replicate 4096 0).take 0 ++ s ++ (List.replicate 4096 0).drop (0 + s.length)) = _
  rw [List.take_zero, List.nil_append, Nat.zero_add, List.drop_replicate]
theorem Rm.width_lt {w : World} {B g N at' wd : Nat} {l : List UInt8} (h : Rm w B g N at' wd l) : l.length = N := h.len
section
variable {w w' : World} {B g N at' wd : Nat} {l : List UInt8}
theorem read_exact (h : Rm w B g N at' wd l) (a n : Nat) (hn : n = 1 ∨ n = 2 ∨ n = 4 ∨ n = 8) (ha : a + n ≤ N) : Calls Try.prog 26 #[.pointer (some ⟨B, 0, none⟩), .int .u64 a, .int .i64 n] w (ReadE (num l a n) w) := by
  obtain rfl | rfl | rfl | rfl := hn
  · exact read_1 h a ha
  · exact read_2 h a ha
  · exact read_4 h a ha
  · exact read_8 h a ha
theorem reads_good (h : Rm w B g N at' wd l) (a n x : Nat) (hn : n = 1 ∨ n = 2 ∨ n = 4 ∨ n = 8) (ha : a + n ≤ N) (hx : num l a n = x) : Calls Try.prog 25 #[.pointer (some ⟨B, 0, none⟩), .int .u64 a, .int .i64 n, .int .u64 x] w fun e w' => e = .returned (.bool true) ∧ ∃ k, w' = w.drewN k := by
  have HR := Lib.hid (read_exact h a n hn ha)
  rw [hx] at HR
  clear h hx hn
  go_enter Try.func25, Try.ntmps25
  go_wp2_with (go_at_call 26; refine HR.out.mono ?_; rintro e w' ⟨rfl, k, rfl⟩)
  go_ret
  exact ⟨rfl, k, rfl⟩
end
end Go.Proofs.Ytjdedgfbonlmkaa
