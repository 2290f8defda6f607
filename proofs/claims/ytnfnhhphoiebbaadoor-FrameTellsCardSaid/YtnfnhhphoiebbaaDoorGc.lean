/- What Next and Text tell, as lists. -/
import Derived.Test.YtnfnhhphoiebbaaDoorGb
import Derived.Test.YtnfnhhphoiebbaaDoorFq
import Derived.Lib.Join
import Derived.Lib.ItoaMem
set_option linter.unusedVariables false
set_option linter.unusedSimpArgs false
namespace Go.Proofs.YtnfnhhphoiebbaaDoor
open Go.RowKit
theorem nxt_one {l : List Win} {g st a b : Nat} (h : Nxt l g st a) (k : Nxt l g st b) : a = b := by
  rcases Nat.lt_trichotomy a b with h1 | h1 | h1
  · exact absurd h.2.1 (k.2.2 a h1)
  · exact h1
  · exact absurd k.2.1 (h.2.2 b h1)
theorem at_cnt {l : List Win} {g p : Nat} (hp : p < tot l) (h : (fr l).getD p 0 = g) : cnt l g ≠ 0 := by
  have hl : p < (fr l).length := by rw [fr_len]; exact hp
  rw [List.getD_eq_getElem?_getD, List.getElem?_eq_getElem hl] at h
  have hm : g ∈ fr l := by rw [← h]; exact List.getElem_mem hl
  have := List.count_pos_iff.2 hm
  unfold cnt
  omega
theorem nxt_cnt {l : List Win} {g st d : Nat} (ht : 0 < tot l) (h : Nxt l g st d) : cnt l g ≠ 0 := at_cnt (Nat.mod_lt _ ht) h.2.1
theorem nxt_ex {l : List Win} {g : Nat} (st : Nat) (hp : ∀ w ∈ l, 0 < w.2) (ht : 0 < tot l) (hc : cnt l g ≠ 0) : ∃ dn, Nxt l g st dn := by
  cases hd : awayF g l 0 (st % tot l) with
  | some d => exact ⟨d, nxt_some hp ht hd⟩
  | none =>
    obtain ⟨f, hf⟩ := awayF_has (g := g) (l := l) (by omega)
    exact ⟨_, nxt_none hp ht hd hf⟩
/-- What Next tells of any step. -/
def NxA (l : List Win) (g st : Nat) (v : Value) : Prop :=
  (cnt l g = 0 ∧ v = .tuple #[.int .u64 0, .bool false]) ∨
  ∃ dn, Nxt l g st dn ∧ ((st + dn < 18446744073709551616 ∧ v = .tuple #[.int .u64 (st + dn : Nat), .bool true]) ∨ (¬ st + dn < 18446744073709551616 ∧ v = .tuple #[.int .u64 0, .bool false]))
theorem NxA.one {l : List Win} {g st : Nat} {v u : Value} (ht : 0 < tot l) (h : NxA l g st v) (k : NxA l g st u) : v = u := by
  rcases h with ⟨h1, rfl⟩ | ⟨a, ha, h2⟩
  · rcases k with ⟨k1, rfl⟩ | ⟨b, hb, k2⟩
    · rfl
    · exact absurd h1 (nxt_cnt ht hb)
  · rcases k with ⟨k1, rfl⟩ | ⟨b, hb, k2⟩
    · exact absurd k1 (nxt_cnt ht ha)
    · obtain rfl := nxt_one ha hb
      rcases h2 with ⟨h3, rfl⟩ | ⟨h3, rfl⟩
      · rcases k2 with ⟨k3, rfl⟩ | ⟨k3, rfl⟩
        · rfl
        · exact absurd h3 k3
      · rcases k2 with ⟨k3, rfl⟩ | ⟨k3, rfl⟩
        · exact absurd k3 h3
        · rfl
theorem NxA.late {l : List Win} {g st k : Nat} (hp : ∀ w ∈ l, 0 < w.2) (ht : 0 < tot l) (h : ∀ j, j < k → (fr l).getD ((st + j) % tot l) 0 ≠ g) (hk : 18446744073709551616 ≤ st + k) : NxA l g st (.tuple #[.int .u64 0, .bool false]) := by
  by_cases hc : cnt l g = 0
  · exact .inl ⟨hc, rfl⟩
  · obtain ⟨dn, hd⟩ := nxt_ex st hp ht hc
    refine .inr ⟨dn, hd, .inr ⟨fun hl => ?_, rfl⟩⟩
    exact h dn (by omega) hd.2.1
theorem NxA.none {l : List Win} {g st : Nat} (hp : ∀ w ∈ l, 0 < w.2) (ht : 0 < tot l) (h : ∀ j, j < tot l → (fr l).getD ((st + j) % tot l) 0 ≠ g) : NxA l g st (.tuple #[.int .u64 0, .bool false]) := by
  by_cases hc : cnt l g = 0
  · exact .inl ⟨hc, rfl⟩
  · obtain ⟨dn, hd⟩ := nxt_ex st hp ht hc
    exact absurd hd.2.1 (h dn hd.1)
/-- A window's text. -/
def gL (g : Nat) : List UInt8 := if g = 255 then [45] else Lib.decDigits g
def itL (w : Win) : List UInt8 := gL w.1 ++ ([58] ++ Lib.decDigits w.2)
def txL (l : List Win) : List UInt8 := Lib.join (l.map itL) [32]
theorem txL_next {l : List Win} {k : Nat} {f : Win} (h : l[k]? = some f) : txL (l.take (k + 1)) = if k = 0 then itL f else txL (l.take k) ++ [32] ++ itL f := by
  cases l with
  | nil => simp at h
  | cons w r =>
    cases k with
    | zero =>
      simp only [List.getElem?_cons_zero, Option.some.injEq] at h
      subst h
      rw [if_pos rfl]
      simp [txL, Lib.join_one]
    | succ k =>
      rw [if_neg (by omega)]
      simp only [List.getElem?_cons_succ] at h
      have h2 : (r.map itL)[k]? = some (itL f) := by simp [h]
      have h3 := Lib.joinTail_take_succ [32] (r.map itL) k _ h2
      simp only [txL, List.take_succ_cons, List.map_cons, Lib.join_cons, List.map_take]
      rw [h3]
      simp [List.append_assoc]
theorem digs_len {n : Nat} (h : n < 18446744073709551616) : (Lib.decDigits n).length ≤ 20 := by
  rw [Lib.decDigits_length]
  by_cases h1 : 1 ≤ n
  · have := Lib.numDigits_eq n h1 h
    have h2 := this.1
    have h3 := this.2
    split at h2 <;> omega
  · obtain rfl : n = 0 := by omega
    rw [Lib.nDigits_small (by omega)]
    omega
theorem gL_len {g : Nat} (h : g < 256) : (gL g).length ≤ 20 := by
  unfold gL
  split
  · simp
  · exact digs_len (by omega)
theorem itL_len {w : Win} (h : w.1 < 256) (h2 : w.2 < 65536) : (itL w).length ≤ 41 := by
  have h1 := gL_len h
  have h3 := digs_len (n := w.2) (by omega)
  simp only [itL, List.length_append, List.length_cons, List.length_nil]
  omega
theorem txL_len {l : List Win} (hb : ∀ (k : Nat) (f : Win), l[k]? = some f → f.1 < 256 ∧ f.2 < 65536) : ∀ k, (txL (l.take k)).length ≤ 42 * k
  | 0 => by simp [txL, Lib.join_nil]
  | k + 1 => by
    by_cases hk : k < l.length
    · have hf : l[k]? = some l[k] := List.getElem?_eq_getElem hk
      have ih := txL_len hb k
      have := hb k _ hf
      have h1 := itL_len this.1 this.2
      rw [txL_next hf]
      split
      · omega
      · simp only [List.length_append, List.length_cons, List.length_nil]; omega
    · have ih := txL_len hb k
      rw [List.take_of_length_le (by omega)] at ih ⊢
      omega
end Go.Proofs.YtnfnhhphoiebbaaDoor
