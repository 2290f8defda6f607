/- Entries, as functions: which one is met first, what is allowed (numbers alone). -/
import Derived.Test.YtcgklflflfemnaaDoorBx
import Derived.Lib.TrailingZeros
set_option linter.unusedVariables false
set_option linter.unusedSimpArgs false
namespace Go.Proofs.YtcgklflflfemnaaDoor
/-- A range and an entry's byte. -/
structure Ent where
  f : Nat
  l : Nat
  b : Nat
abbrev Ents := Nat → Option Ent
def hits (e : Ent) (lo hi : Nat) : Prop := e.f ≤ hi ∧ lo ≤ e.l
instance (e : Ent) (lo hi : Nat) : Decidable (hits e lo hi) := inferInstanceAs (Decidable (_ ∧ _))
def holds (e : Ent) (lo hi : Nat) : Prop := e.f ≤ lo ∧ hi ≤ e.l
instance (e : Ent) (lo hi : Nat) : Decidable (holds e lo hi) := inferInstanceAs (Decidable (_ ∧ _))
/-- The first entry that addresses meet. -/
def srch (E : Ents) (lo hi : Nat) : Nat → Nat → Option (Nat × Ent)
  | 0, _ => none
  | n + 1, i => match E i with
    | some e => if hits e lo hi then some (i, e) else srch E lo hi n (i + 1)
    | none => srch E lo hi n (i + 1)
abbrev fst8 (E : Ents) (lo hi : Nat) : Option (Nat × Ent) := srch E lo hi 8 0
theorem srch_some {E : Ents} {lo hi : Nat} : ∀ {n i : Nat} {r : Nat × Ent}, srch E lo hi n i = some r → i ≤ r.1 ∧ r.1 < i + n ∧ E r.1 = some r.2 ∧ hits r.2 lo hi ∧ ∀ j, i ≤ j → j < r.1 → ∀ e, E j = some e → ¬ hits e lo hi
  | 0, i, r, h => by cases h
  | n + 1, i, r, h => by
    unfold srch at h
    split at h
    · rename_i e he
      split at h
      · rename_i hh
        cases h
        exact ⟨Nat.le_refl _, by simp, he, hh, fun j h1 h2 => absurd h2 (by simp only; omega)⟩
      · rename_i hh
        obtain ⟨a, b, c, d, f⟩ := srch_some h
        refine ⟨by omega, by omega, c, d, fun j h1 h2 e2 h3 => ?_⟩
        by_cases hj : j = i
        · subst hj
          rw [he] at h3
          cases h3
          exact hh
        · exact f j (by omega) h2 e2 h3
    · rename_i he
      obtain ⟨a, b, c, d, f⟩ := srch_some h
      refine ⟨by omega, by omega, c, d, fun j h1 h2 e2 h3 => ?_⟩
      by_cases hj : j = i
      · subst hj
        rw [he] at h3
        cases h3
      · exact f j (by omega) h2 e2 h3
theorem srch_none {E : Ents} {lo hi : Nat} : ∀ {n i : Nat}, srch E lo hi n i = none → ∀ j, i ≤ j → j < i + n → ∀ e, E j = some e → ¬ hits e lo hi
  | 0, i, h, j, h1, h2, _, _ => by omega
  | n + 1, i, h, j, h1, h2, e, he => by
    unfold srch at h
    by_cases hj : j = i
    · subst hj
      rw [he] at h
      simp only at h
      split at h
      · cases h
      · assumption
    · refine srch_none (n := n) (i := i + 1) ?_ j (by omega) (by omega) e he
      split at h
      · split at h
        · cases h
        · exact h
      · exact h
theorem srch_of {E : Ents} {lo hi i : Nat} {e : Ent} (hi8 : i < 8) (he : E i = some e) (hh : hits e lo hi) (hb : ∀ j, j < i → ∀ e, E j = some e → ¬ hits e lo hi) : fst8 E lo hi = some (i, e) := by
  cases h : fst8 E lo hi with
  | none => exact absurd hh (srch_none h i (Nat.zero_le _) (by omega) e he)
  | some r =>
    obtain ⟨_, h2, h3, h4, h5⟩ := srch_some h
    rcases Nat.lt_trichotomy r.1 i with h6 | h6 | h6
    · exact absurd h4 (hb r.1 h6 r.2 h3)
    · obtain ⟨ri, re⟩ := r
      simp only at h6 h3
      subst h6
      rw [he] at h3
      cases h3
      rfl
    · exact absurd hh (h5 i (Nat.zero_le _) h6 e he)
theorem srch_no {E : Ents} {lo hi : Nat} (hb : ∀ j, j < 8 → ∀ e, E j = some e → ¬ hits e lo hi) : fst8 E lo hi = none := by
  cases h : fst8 E lo hi with
  | none => rfl
  | some r =>
    obtain ⟨_, h2, h3, h4, _⟩ := srch_some h
    exact absurd h4 (hb r.1 (by omega) r.2 h3)
/-- Its number; -1: none. -/
def idx (r : Option (Nat × Ent)) : Int := match r with
  | some r => r.1
  | none => -1
/-- What First tells besides. -/
def whl (r : Option (Nat × Ent)) (all : Bool) (lo hi : Nat) : Bool := match r with
  | some r => all && decide (holds r.2 lo hi)
  | none => false
/-- What a kind of access asks of an entry's byte. -/
def bitOf (kind b : Nat) : Bool := if kind = 0 then decide (b / 4 % 2 = 1) else if kind = 1 then decide (b % 2 = 1) else if kind = 2 then decide (b / 2 % 2 = 1) else false
/-- What an entry allows of what lies in it. -/
def entOk (mode kind : Nat) (e : Ent) : Bool := if mode = 3 ∧ e.b < 128 then true else bitOf kind e.b
/-- What is allowed, where all of it are addresses. -/
def allowed (mode kind lo hi : Nat) (r : Option (Nat × Ent)) : Bool := match r with
  | none => decide (mode = 3)
  | some r => if holds r.2 lo hi then entOk mode kind r.2 else false
section
variable {E : Ents} {mode kind lo n : Nat}
/-- A byte is met where it lies. -/
theorem byte_holds {a : Nat} {r : Nat × Ent} (h : fst8 E a a = some r) : holds r.2 a a := (srch_some h).2.2.2.1
/-- What is allowed is allowed byte by byte. -/
theorem all_of_is (hn : 1 ≤ n) (h : allowed mode kind lo (lo + n - 1) (fst8 E lo (lo + n - 1)) = true) (k : Nat) (hk : k < n) : allowed mode kind (lo + k) (lo + k) (fst8 E (lo + k) (lo + k)) = true := by
  cases hr : fst8 E lo (lo + n - 1) with
  | none =>
    rw [hr] at h
    have h0 : fst8 E (lo + k) (lo + k) = none := srch_no fun j hj e he hh => srch_none hr j (Nat.zero_le _) (by omega) e he ⟨by have := hh.1; omega, by have := hh.2; omega⟩
    rw [h0]
    exact h
  | some r =>
    rw [hr] at h
    obtain ⟨_, h2, h3, h4, h5⟩ := srch_some hr
    unfold allowed at h
    simp only at h
    split at h
    · rename_i hh
      have h0 : fst8 E (lo + k) (lo + k) = some r := srch_of (by omega) h3 ⟨by have := hh.1; omega, by have := hh.2; omega⟩ fun j hj e he h6 => h5 j (Nat.zero_le _) hj e he ⟨by have := h6.1; omega, by have := h6.2; omega⟩
      rw [h0]
      unfold allowed
      simp only
      rw [if_pos ⟨by have := hh.1; omega, by have := hh.2; omega⟩]
      exact h
    · cases h
/-- What each byte of is allowed, by the same entry, is allowed. -/
theorem is_of_all (hE : ∀ i e, E i = some e → e.f ≤ e.l) (hn : 1 ≤ n) (h : ∀ k, k < n → allowed mode kind (lo + k) (lo + k) (fst8 E (lo + k) (lo + k)) = true) (hs : ∀ k, k < n → idx (fst8 E (lo + k) (lo + k)) = idx (fst8 E lo lo)) : allowed mode kind lo (lo + n - 1) (fst8 E lo (lo + n - 1)) = true := by
  have hbyte : ∀ e : Ent, e.f ≤ e.l → hits e lo (lo + n - 1) → ∃ k, k < n ∧ hits e (lo + k) (lo + k) := fun e h1 h2 => by
    obtain ⟨h3, h4⟩ := h2
    by_cases h5 : e.f ≤ lo
    · exact ⟨0, by omega, by constructor <;> omega⟩
    · exact ⟨e.f - lo, by omega, by constructor <;> omega⟩
  cases hr : fst8 E lo lo with
  | none =>
    have hno : ∀ k, k < n → fst8 E (lo + k) (lo + k) = none := fun k hk => by
      have := hs k hk
      rw [hr] at this
      cases h9 : fst8 E (lo + k) (lo + k) with
      | none => rfl
      | some r => rw [h9] at this; simp only [idx] at this; omega
    have h0 : fst8 E lo (lo + n - 1) = none := srch_no fun j hj e he hh => by
      obtain ⟨k, hk, h2⟩ := hbyte e (hE j e he) hh
      exact srch_none (hno k hk) j (Nat.zero_le _) (by omega) e he h2
    have h1 := h 0 (by omega)
    rw [Nat.add_zero, hr] at h1
    rw [h0]
    exact h1
  | some r =>
    have hall : ∀ k, k < n → fst8 E (lo + k) (lo + k) = some r := fun k hk => by
      have h1 := hs k hk
      rw [hr] at h1
      cases h9 : fst8 E (lo + k) (lo + k) with
      | none => rw [h9] at h1; simp only [idx] at h1; omega
      | some q =>
        rw [h9] at h1
        simp only [idx] at h1
        have h2 := (srch_some h9).2.2.1
        have h3 := (srch_some hr).2.2.1
        obtain ⟨q1, q2⟩ := q
        obtain ⟨r1, r2⟩ := r
        simp only at h1 h2 h3
        have h4 : q1 = r1 := by omega
        subst h4
        rw [h2] at h3
        cases h3
        rfl
    have hf := (srch_some (hall 0 (by omega))).2.2.2.1
    have hl := (srch_some (hall (n - 1) (by omega))).2.2.2.1
    have hho : holds r.2 lo (lo + n - 1) := ⟨by have := hf.1; omega, by have := hl.2; omega⟩
    have h0 : fst8 E lo (lo + n - 1) = some r := srch_of (by have := (srch_some hr).2.1; omega) (srch_some hr).2.2.1 ⟨by have := hho.1; omega, by have := hho.2; omega⟩ fun j hj e he h6 => by
      obtain ⟨k, hk, h7⟩ := hbyte e (hE j e he) h6
      exact (srch_some (hall k hk)).2.2.2.2 j (Nat.zero_le _) hj e he h7
    have h1 := h 0 (by omega)
    rw [hall 0 (by omega)] at h1
    rw [h0]
    unfold allowed at h1 ⊢
    simp only at h1 ⊢
    rw [if_pos hho]
    split at h1
    · exact h1
    · cases h1
end
/-- Entries behind the first one that is met make no difference. -/
theorem fst8_agree {E D : Ents} {lo hi : Nat} {r : Nat × Ent} (h : fst8 E lo hi = some r) (hd : ∀ j, j ≤ r.1 → D j = E j) : fst8 D lo hi = some r := by
  obtain ⟨_, h2, h3, h4, h5⟩ := srch_some h
  exact srch_of (by omega) (by rw [hd r.1 (Nat.le_refl _)]; exact h3) h4 fun j hj e he => h5 j (Nat.zero_le _) hj e (by rw [← hd j (by omega)]; exact he)
end Go.Proofs.YtcgklflflfemnaaDoor
