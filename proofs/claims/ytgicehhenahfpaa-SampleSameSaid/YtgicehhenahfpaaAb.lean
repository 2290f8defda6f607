/- A channel of the program beside the document's. -/
import Derived.Test.YtgicehhenahfpaaAa
set_option linter.unusedVariables false
set_option linter.unusedSimpArgs false
namespace Go.Proofs.Ytgicehhenahfpaa
open Go.RowKit
attribute [local go_sem] Oper.semAt_some
/-- The marks of the ends: those that there are, and have not read. -/
def marks (n : Nat) (R : List Int) (k : Nat) : Bool := decide (k < n) && unread R k
/-- The program's cells, by the last message. -/
def chanO (m v : Int) (n : Nat) : Option (Nat × ByteArray × List Int) → Array Value
  | none => chan m v n false 0 ⟨#[]⟩ fresh0
  | some (t, s, R) => chan m v n true t s (marks n R)
/-- Two channels, the program's and the document's. -/
structure Pr (w : World) (C B H : Nat) (m v : Int) (n c : Nat) (o : Option (Nat × ByteArray × List Int)) : Prop where
  prog : Box w C 57 (chanO m v n o)
  doc : Dc w B H m v n c o
  ok : okO o
  hH : H ≤ w.heap.size
/-- Of the elder blocks C and B alone may have turned. -/
def Kq (C B H : Nat) (k : Nat) : Prop := k = C ∨ k = B ∨ H ≤ k
theorem chan_ext {m v n t : Int} {has : Bool} {s : ByteArray} {F G : Nat → Bool} (h : ∀ k, k < 16 → F k = G k) : chan m v n has t s F = chan m v n has t s G := by
  simp only [chan, h 0 (by decide), h 1 (by decide), h 2 (by decide), h 3 (by decide), h 4 (by decide), h 5 (by decide), h 6 (by decide), h 7 (by decide), h 8 (by decide), h 9 (by decide), h 10 (by decide), h 11 (by decide), h 12 (by decide), h 13 (by decide), h 14 (by decide), h 15 (by decide)]
theorem marks_written (n : Nat) (R : List Int) : ∀ k, upTo (marks n R) n k = marks n [] k := by
  intro k
  simp only [upTo, marks, unread]
  by_cases h : k < n <;> simp [h]
theorem marks_first (n : Nat) : ∀ k, upTo fresh0 n k = marks n [] k := by
  intro k
  simp only [upTo, marks, unread, fresh0]
  by_cases h : k < n <;> simp [h]
theorem marks_read (n : Nat) (R : List Int) (e : Nat) : ∀ k, turn (marks n R) e false k = marks n (R ++ [(e : Int)]) k := by
  intro k
  simp only [turn, marks, unread, List.mem_append, List.mem_singleton]
  by_cases h : k = e
  · subst h; simp
  · have : ¬ ((k : Int) = (e : Int)) := by omega
    simp [h, this]
/-- Are the program's two channels the same? -/
def sameO (m v : Int) (n : Nat) (o : Option (Nat × ByteArray × List Int)) (m' v' : Int) (n' : Nat) (o' : Option (Nat × ByteArray × List Int)) : Bool :=
  match o, o' with
  | none, none => sameB m v n false 0 ⟨#[]⟩ fresh0 m' v' n' false 0 ⟨#[]⟩ fresh0
  | none, some (t, s, R) => sameB m v n false 0 ⟨#[]⟩ fresh0 m' v' n' true t s (marks n' R)
  | some (t, s, R), none => sameB m v n true t s (marks n R) m' v' n' false 0 ⟨#[]⟩ fresh0
  | some (t, s, R), some (t', s', R') => sameB m v n true t s (marks n R) m' v' n' true t' s' (marks n' R')
theorem sameO_any {w : World} {m v m' v' : Int} {n n' : Nat} {o o' : Option (Nat × ByteArray × List Int)} {B C : Nat} (hb : Box w B 57 (chanO m v n o)) (hc : Box w C 57 (chanO m' v' n' o')) : Calls Try.prog 11 #[.pointer (some ⟨B, 0, none⟩), .pointer (some ⟨C, 0, none⟩)] w fun e w' => e = .returned (.bool (sameO m v n o m' v' n' o')) ∧ ∃ j, w' = w.drewN j := by
  rcases o with _ | ⟨t, s, R⟩ <;> rcases o' with _ | ⟨t', s', R'⟩ <;> exact same_any hb hc
theorem data_eq {s s' : ByteArray} (h : s.data.toList = s'.data.toList) : s = s' := ByteArray.ext (Array.toList_inj.1 h)
/-- The program's channels are the same as often as the document's. -/
theorem same_told {m v m' v' : Int} {n n' : Nat} {o o' : Option (Nat × ByteArray × List Int)} (hn : n ≤ 16) : sameO m v n o m' v' n' o' = true ↔ (m = m' ∧ v = v' ∧ n = n' ∧ tellL n o = tellL n' o') := by
  rcases o with _ | ⟨t, s, R⟩ <;> rcases o' with _ | ⟨t', s', R'⟩
  · simp only [sameO, sameB_iff, tellL]
    constructor
    · rintro ⟨h1, h2, h3, _⟩; exact ⟨h1, h2, by omega, trivial⟩
    · rintro ⟨h1, h2, h3, _⟩; exact ⟨h1, h2, by omega, trivial, trivial, trivial, fun _ _ => trivial⟩
  · simp only [sameO, sameB_iff, tellL]
    constructor
    · rintro ⟨_, _, _, h, _⟩; cases h
    · rintro ⟨_, _, _, h⟩; exact absurd h.symm text_ne
  · simp only [sameO, sameB_iff, tellL]
    constructor
    · rintro ⟨_, _, _, h, _⟩; cases h
    · rintro ⟨_, _, _, h⟩; exact absurd h text_ne
  · simp only [sameO, sameB_iff, tellL]
    constructor
    · rintro ⟨h1, h2, h3, _, h5, h6, h7⟩
      have e3 : n = n' := by omega
      have e5 : t = t' := by omega
      subst e3 e5 h6
      refine ⟨h1, h2, rfl, ?_⟩
      have hb : bitsL (unread R) n = bitsL (unread R') n := bits_eq fun k hk => by
        have := h7 k (by omega)
        simpa [marks, hk] using this
      simp only [textL, hb]
    · rintro ⟨h1, h2, rfl, h⟩
      obtain ⟨e1, e2, e3⟩ := text_inj h
      refine ⟨h1, h2, rfl, trivial, by rw [e1], data_eq e2, fun k _ => ?_⟩
      simp only [marks]
      by_cases hk : k < n
      · rw [e3 k hk]
      · simp [hk]
end Go.Proofs.Ytgicehhenahfpaa
