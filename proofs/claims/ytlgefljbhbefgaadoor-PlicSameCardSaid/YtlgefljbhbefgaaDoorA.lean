/- A PLIC as numbers and truths: what counts, what goes ahead. -/
import Derived.Test.YtlgefljbhbefgaaDoorBx
set_option linter.unusedVariables false
set_option linter.unusedSimpArgs false
namespace Go.Proofs.YtlgefljbhbefgaaDoor
open Go
/-- How sources and contexts stand. -/
structure PS where
  pr : Nat → Nat
  hi : Nat → Bool
  pe : Nat → Bool
  se : Nat → Bool
  en : Nat → Nat
  th : Nat → Nat
def upd {α : Type} (f : Nat → α) (i : Nat) (x : α) (k : Nat) : α := if k = i then x else f k
theorem upd_at {α : Type} (f : Nat → α) (i : Nat) (x : α) : upd f i x i = x := if_pos rfl
theorem upd_ne {α : Type} (f : Nat → α) {i k : Nat} (x : α) (h : k ≠ i) : upd f i x k = f k := if_neg h
/-- As at first. -/
def PS.zero : PS := ⟨fun _ => 0, fun _ => false, fun _ => false, fun _ => false, fun _ => 0, fun _ => 0⟩
/-- Is a source enabled? -/
def PS.on (s : PS) (c k : Nat) : Bool := decide (s.en c / 2 ^ k % 2 = 1)
/-- Does a source count? -/
def PS.q (s : PS) (c k : Nat) : Bool := s.pe k && s.on c k
/-- The best of the first sources. -/
def bst (q : Nat → Bool) (pr : Nat → Nat) : Nat → Nat
  | 0 => 0
  | k + 1 => if q k = true ∧ pr (bst q pr k) < pr k then k else bst q pr k
def PS.best (s : PS) (c : Nat) : Nat := bst (s.q c) s.pr 8
theorem bst_spec {q : Nat → Bool} {pr : Nat → Nat} (h0 : pr 0 = 0) : ∀ j, (bst q pr j = 0 ∨ (bst q pr j < j ∧ q (bst q pr j) = true ∧ 0 < pr (bst q pr j))) ∧ ∀ k, k < j → q k = true → pr k ≤ pr (bst q pr j) ∧ (k < bst q pr j → pr k < pr (bst q pr j))
  | 0 => ⟨.inl rfl, fun k h => by omega⟩
  | j + 1 => by
    obtain ⟨h1, h2⟩ := bst_spec h0 j
    by_cases h : q j = true ∧ pr (bst q pr j) < pr j
    · have e : bst q pr (j + 1) = j := by rw [bst, if_pos h]
      rw [e]
      refine ⟨.inr ⟨by omega, h.1, by omega⟩, fun k hk hq => ?_⟩
      by_cases hkj : k = j
      · subst hkj; exact ⟨Nat.le_refl _, fun h => by omega⟩
      · have := (h2 k (by omega) hq).1
        exact ⟨by omega, fun _ => by omega⟩
    · have e : bst q pr (j + 1) = bst q pr j := by rw [bst, if_neg h]
      rw [e]
      refine ⟨?_, fun k hk hq => ?_⟩
      · rcases h1 with h1 | ⟨h1, h3, h4⟩
        · exact .inl h1
        · exact .inr ⟨by omega, h3, h4⟩
      · by_cases hkj : k = j
        · subst hkj
          have hn : ¬ pr (bst q pr k) < pr k := fun h5 => h ⟨hq, h5⟩
          refine ⟨by omega, fun h6 => ?_⟩
          rcases h1 with h1 | ⟨h1, _⟩ <;> omega
        · exact h2 k (by omega) hq
theorem bst_lt {q : Nat → Bool} {pr : Nat → Nat} : ∀ j, bst q pr j ≤ j - 1
  | 0 => Nat.le_refl _
  | j + 1 => by
    have := bst_lt (q := q) (pr := pr) j
    rw [bst]
    split <;> omega
/-- What always holds of a PLIC that was made. -/
structure PS.ok (s : PS) : Prop where
  pr : ∀ i, s.pr i < 8
  pr0 : s.pr 0 = 0
  pe0 : s.pe 0 = false
  en : ∀ c, s.en c < 256
  th : ∀ c, s.th c < 8
  gate : ∀ i, s.hi i = true → s.se i = false → s.pe i = true
  pese : ∀ i, s.pe i = true → s.se i = false
theorem PS.zero_ok : PS.zero.ok := ⟨fun _ => show 0 < 8 by decide, rfl, rfl, fun _ => show 0 < 256 by decide, fun _ => show 0 < 8 by decide, fun _ h => absurd (show false = true from h) (by decide), fun _ h => absurd (show false = true from h) (by decide)⟩
/-- A level. -/
def PS.raise (s : PS) (n : Nat) (h : Bool) : PS := { s with hi := upd s.hi n h, pe := if h = true ∧ s.se n = false then upd s.pe n true else s.pe }
/-- A claim. -/
def PS.claim (s : PS) (c : Nat) : PS := if s.best c = 0 then s else { s with pe := upd s.pe (s.best c) false, se := upd s.se (s.best c) true }
/-- A complete. -/
def PS.done (s : PS) (c v : Nat) : PS := if 1 ≤ v ∧ v < 8 ∧ s.on c v = true ∧ s.se v = true then { s with se := upd s.se v false, pe := if s.hi v = true then upd s.pe v true else s.pe } else s
def PS.setPr (s : PS) (n v : Nat) : PS := { s with pr := upd s.pr n (v % 8) }
def PS.setEn (s : PS) (c v : Nat) : PS := { s with en := upd s.en c (v % 256 - v % 2) }
def PS.setTh (s : PS) (c v : Nat) : PS := { s with th := upd s.th c (v % 8) }
theorem PS.best_lt (s : PS) (c : Nat) : s.best c < 8 := by have := bst_lt (q := s.q c) (pr := s.pr) 8; unfold PS.best; omega
theorem PS.ok.raise {s : PS} (h : s.ok) {n : Nat} (hn : 1 ≤ n) (b : Bool) : (s.raise n b).ok := by
  refine ⟨h.pr, h.pr0, ?_, h.en, h.th, fun i => ?_, fun i => ?_⟩
  · show (if b = true ∧ s.se n = false then upd s.pe n true else s.pe) 0 = false
    split
    · rw [upd_ne _ _ (by omega)]; exact h.pe0
    · exact h.pe0
  · show upd s.hi n b i = true → s.se i = false → (if b = true ∧ s.se n = false then upd s.pe n true else s.pe) i = true
    by_cases e : i = n
    · subst e
      rw [upd_at]
      intro h1 h2
      rw [if_pos ⟨h1, h2⟩, upd_at]
    · rw [upd_ne _ _ e]
      intro h1 h2
      have := h.gate i h1 h2
      split
      · rw [upd_ne _ _ e]; exact this
      · exact this
  · show (if b = true ∧ s.se n = false then upd s.pe n true else s.pe) i = true → s.se i = false
    split
    · rename_i hb
      by_cases e : i = n
      · subst e; exact fun _ => hb.2
      · rw [upd_ne _ _ e]; exact h.pese i
    · exact h.pese i
theorem PS.ok.claim {s : PS} (h : s.ok) (c : Nat) : (s.claim c).ok := by
  unfold PS.claim
  split
  · exact h
  · rename_i hb
    refine ⟨h.pr, h.pr0, ?_, h.en, h.th, fun i => ?_, fun i => ?_⟩
    · show upd s.pe (s.best c) false 0 = false
      rw [upd_ne _ _ (by omega)]; exact h.pe0
    · show s.hi i = true → upd s.se (s.best c) true i = false → upd s.pe (s.best c) false i = true
      by_cases e : i = s.best c
      · subst e; rw [upd_at]; intro _ h2; cases h2
      · rw [upd_ne _ _ e, upd_ne _ _ e]; exact h.gate i
    · show upd s.pe (s.best c) false i = true → upd s.se (s.best c) true i = false
      by_cases e : i = s.best c
      · subst e; rw [upd_at]; intro h2; cases h2
      · rw [upd_ne _ _ e, upd_ne _ _ e]; exact h.pese i
theorem PS.ok.done {s : PS} (h : s.ok) (c v : Nat) : (s.done c v).ok := by
  unfold PS.done
  split
  · rename_i hv
    refine ⟨h.pr, h.pr0, ?_, h.en, h.th, fun i => ?_, fun i => ?_⟩
    · show (if s.hi v = true then upd s.pe v true else s.pe) 0 = false
      split
      · rw [upd_ne _ _ (by omega)]; exact h.pe0
      · exact h.pe0
    · show s.hi i = true → upd s.se v false i = false → (if s.hi v = true then upd s.pe v true else s.pe) i = true
      by_cases e : i = v
      · subst e; rw [upd_at]; intro h1 _; rw [if_pos h1, upd_at]
      · rw [upd_ne _ _ e]
        intro h1 h2
        have := h.gate i h1 h2
        split
        · rw [upd_ne _ _ e]; exact this
        · exact this
    · show (if s.hi v = true then upd s.pe v true else s.pe) i = true → upd s.se v false i = false
      by_cases e : i = v
      · subst e; rw [upd_at]; exact fun _ => rfl
      · rw [upd_ne _ _ e]
        split
        · rw [upd_ne _ _ e]; exact h.pese i
        · exact h.pese i
  · exact h
theorem PS.ok.setPr {s : PS} (h : s.ok) {n : Nat} (hn : 1 ≤ n) (v : Nat) : (s.setPr n v).ok :=
  ⟨fun i => by
    show upd s.pr n (v % 8) i < 8
    by_cases e : i = n
    · subst e; rw [upd_at]; exact Nat.mod_lt _ (by decide)
    · rw [upd_ne _ _ e]; exact h.pr i, by show upd s.pr n (v % 8) 0 = 0; rw [upd_ne _ _ (by omega)]; exact h.pr0, h.pe0, h.en, h.th, h.gate, h.pese⟩
theorem PS.ok.setEn {s : PS} (h : s.ok) (c v : Nat) : (s.setEn c v).ok :=
  ⟨h.pr, h.pr0, h.pe0, fun i => by
    show upd s.en c (v % 256 - v % 2) i < 256
    by_cases e : i = c
    · subst e; rw [upd_at]; omega
    · rw [upd_ne _ _ e]; exact h.en i, h.th, h.gate, h.pese⟩
theorem PS.ok.setTh {s : PS} (h : s.ok) (c v : Nat) : (s.setTh c v).ok :=
  ⟨h.pr, h.pr0, h.pe0, h.en, fun i => by
    show upd s.th c (v % 8) i < 8
    by_cases e : i = c
    · subst e; rw [upd_at]; omega
    · rw [upd_ne _ _ e]; exact h.th i, h.gate, h.pese⟩
/-- What is pending, as a number. -/
def bitsN (f : Nat → Bool) : Nat → Nat
  | 0 => 0
  | k + 1 => bitsN f k + if f k then 2 ^ k else 0
theorem bitsN_lt (f : Nat → Bool) : ∀ k, bitsN f k < 2 ^ k
  | 0 => show 0 < 1 by decide
  | k + 1 => by
    have := bitsN_lt f k
    rw [bitsN, Nat.pow_succ]
    split <;> omega
end Go.Proofs.YtlgefljbhbefgaaDoor
