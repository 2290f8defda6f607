/- The document's Load: what a reading that stops at once tells of the reading that goes on. -/
import Derived.Test.YtnignbpgcopehaaQg
set_option linter.unusedVariables false
set_option linter.unusedSimpArgs false
namespace Go.Proofs.Ytnignbpgcopehaa
open Go.RowKit
variable {s : ByteArray}
theorem tkN_torn (p : Nat) : tkN s p true = 0 := by
  have e : bad s p 1 true = true := by unfold bad; rfl
  unfold tkN textS
  rw [e]
  rfl
theorem ldF_torn_some (m : Nat) : ∀ (k p : Nat) (M0 : List Sm), ∃ p' Ms, ldF s m k p true M0 = some (p', true, Ms)
  | 0, p, M0 => ⟨p, M0, rfl⟩
  | k + 1, p, M0 => by
    have e : bad s (tkP s p true) (tkN s p true) (tkT s p true) = true := by unfold tkT bad; simp
    obtain ⟨p', Ms, h⟩ := ldF_torn_some m k (textP s (tkP s p true) (tkN s p true) (tkT s p true)) (M0 ++ [mkS (textS s (tkP s p true) (tkN s p true) (tkT s p true))])
    refine ⟨p', Ms, ?_⟩
    unfold ldF
    rw [if_neg (by rw [tkN_torn]; omega), e]
    exact h
theorem tk_end {p : Nat} (h : s.size ≤ p) : tkN s p false = 0 ∧ tkT s p false = true := by
  have e : bad s p 1 false = true := by unfold bad; simp; omega
  refine ⟨?_, e⟩
  unfold tkN textS
  rw [e]
  rfl
theorem tk_get {p : Nat} (h : p < s.size) : tkN s p false = (s[p]'h).toNat ∧ tkP s p false = p + 1 ∧ tkT s p false = false := by
  have e : bad s p 1 false = false := by unfold bad; simp; omega
  obtain ⟨c, c1, c2, c3, _⟩ := take_one (s := s) (p := p) e
  refine ⟨?_, c3, e⟩
  rw [c2]
  have hl : p < s.data.toList.length := h
  rw [List.drop_eq_getElem_cons hl] at c1
  rw [← (List.cons.inj c1).1]
  rfl
theorem ld_end (m k p : Nat) (M0 : List Sm) (h : s.size ≤ p) : ∃ p' Ms, ldF s m (k + 1) p false M0 = some (p', true, Ms) := by
  obtain ⟨a, b⟩ := tk_end (s := s) h
  have e : bad s (tkP s p false) (tkN s p false) (tkT s p false) = true := by rw [b]; unfold bad; rfl
  unfold ldF
  rw [if_neg (by rw [a]; omega), e]
  exact ldF_torn_some m k _ _
theorem ld_long (m k p : Nat) (M0 : List Sm) (h : p < s.size) (hm : m < (s[p]'h).toNat) : ldF s m (k + 1) p false M0 = none := by
  obtain ⟨a, b, c⟩ := tk_get (s := s) h
  unfold ldF
  rw [if_pos (by rw [a]; exact hm)]
theorem ld_short (m k p : Nat) (M0 : List Sm) (h : p < s.size) (hm : (s[p]'h).toNat ≤ m) (hs : s.size < p + 1 + (s[p]'h).toNat) : ∃ p' Ms, ldF s m (k + 1) p false M0 = some (p', true, Ms) := by
  obtain ⟨a, b, c⟩ := tk_get (s := s) h
  have e : bad s (tkP s p false) (tkN s p false) (tkT s p false) = true := by rw [a, b, c]; unfold bad; simp; omega
  unfold ldF
  rw [if_neg (by rw [a]; omega), e]
  exact ldF_torn_some m k _ _
theorem ld_step (m k p : Nat) (M0 : List Sm) (h : p < s.size) (hm : (s[p]'h).toNat ≤ m) (hs : p + 1 + (s[p]'h).toNat ≤ s.size) : ldF s m (k + 1) p false M0 = ldF s m k (p + 1 + (s[p]'h).toNat) false (M0 ++ [mkS (s.extract (p + 1) (p + 1 + (s[p]'h).toNat))]) := by
  obtain ⟨a, b, c⟩ := tk_get (s := s) h
  have e : bad s (p + 1) (s[p]'h).toNat false = false := by unfold bad; simp; omega
  have e2 : textP s (p + 1) (s[p]'h).toNat false = p + 1 + (s[p]'h).toNat := by unfold textP; rw [e]; rfl
  have e3 : textS s (p + 1) (s[p]'h).toNat false = s.extract (p + 1) (p + 1 + (s[p]'h).toNat) := by unfold textS; rw [e]; rfl
  rw [show ldF s m (k + 1) p false M0 = if m < tkN s p false then none else ldF s m k (textP s (tkP s p false) (tkN s p false) (tkT s p false)) (bad s (tkP s p false) (tkN s p false) (tkT s p false)) (M0 ++ [mkS (textS s (tkP s p false) (tkN s p false) (tkT s p false))]) from rfl, if_neg (by rw [a]; omega), a, b, c, e, e2, e3]
theorem loadE_torn {d m p : Nat} {Ms : List Sm} (h : ldAll s d m = some (p, true, Ms)) : loadE s d m = 4 := by rw [loadE_some h, if_pos rfl]
theorem all_end (d m : Nat) (h : s.size = 0) : loadE s d m = 4 := by
  obtain ⟨a, b⟩ := tk_end (s := s) (p := 0) (by omega)
  refine loadE_torn (p := tkP s 0 false) (Ms := []) ?_
  unfold ldAll
  rw [a, if_neg (by omega), b]
  rfl
theorem all_long (d m : Nat) (h : 0 < s.size) (hd : d < (s[0]'h).toNat) : loadE s d m = 3 := by
  obtain ⟨a, b, c⟩ := tk_get (s := s) h
  refine loadE_none ?_
  unfold ldAll
  rw [a, if_pos hd]
theorem all_go (d m : Nat) (h : 0 < s.size) (hd : (s[0]'h).toNat ≤ d) : ldAll s d m = ldF s m (s[0]'h).toNat 1 false [] := by
  obtain ⟨a, b, c⟩ := tk_get (s := s) h
  unfold ldAll
  rw [a, if_neg (by omega), b, c]
/-- What stands behind p. -/
def rest (s : ByteArray) (p : Nat) : ByteArray := s.extract p s.size
theorem rest_size (p : Nat) : (rest s p).size = s.size - p := by unfold rest; rw [ByteArray.size_extract]; omega
theorem rest_zero : rest s 0 = s := by unfold rest; exact ByteArray.extract_zero_size
theorem rest_at {p : Nat} (h : p < s.size) (h0 : 0 < (rest s p).size) : (rest s p)[0]'h0 = s[p]'h := by
  have e : (s.extract p s.size)[0]'h0 = s[p + 0]'h := ByteArray.getElem_extract h0
  exact e
theorem rest_rest (p n : Nat) : (rest s p).extract n (rest s p).size = rest s (p + n) := by
  apply ByteArray.ext
  unfold rest
  simp only [ByteArray.data_extract, ByteArray.size_extract]
  rw [Array.extract_extract]
  congr 1
  show min (p + _) s.data.size = s.data.size
  have : s.data.size = s.size := rfl
  omega
theorem rest_head (p n : Nat) (h : p + n ≤ s.size) : (rest s p).extract 0 n = s.extract p (p + n) := by
  apply ByteArray.ext
  unfold rest
  simp only [ByteArray.data_extract]
  rw [Array.extract_extract]
  congr 1
  omega
end Go.Proofs.Ytnignbpgcopehaa
