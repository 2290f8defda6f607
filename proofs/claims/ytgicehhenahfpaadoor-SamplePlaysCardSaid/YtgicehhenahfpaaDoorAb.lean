/- A channel of the program beside the document's. -/
import Derived.Test.YtgicehhenahfpaaDoorAa
set_option linter.unusedVariables false
set_option linter.unusedSimpArgs false
namespace Go.Proofs.YtgicehhenahfpaaDoor
open Go.RowKit
attribute [local go_sem] Oper.semAt_some
/-- The marks of the ends: those that there are, and have not read. -/
def marks (n : Nat) (R : List Int) (k : Nat) : Bool := decide (k < n) && unread R k
/-- The program's cells, by the last message. -/
def chanO (m v : Int) (n : Nat) : Option (Nat × ByteArray × List Int) → Array Value
  | none => chan m v n false 0 ⟨#[]⟩ fresh0
  | some (t, s, R) => chan m v n true t s (marks n R)
/-- Two channels, the program's and the document's. -/
structure Pr (w : World) (C B H : Nat) (m v : Int) (n c : Nat) (o : Option (Nat × ByteArray × List Int)) : Prop where
  prog : Box w C 56 (chanO m v n o)
  doc : Dc w B H m v n c o
  ok : okO o
  hH : H ≤ w.heap.size
/-- Of the elder blocks C and B alone may have turned. -/
def Kq (C B H : Nat) (k : Nat) : Prop := k = C ∨ k = B ∨ H ≤ k
theorem chan_ext {m v n t : Int} {has : Bool} {s : ByteArray} {F G : Nat → Bool} (h : ∀ k, k < 16 → F k = G k) : chan m v n has t s F = chan m v n has t s G := by
  simp only [chan, h 0 (by decide), h 1 (by decide), h 2 (by decide), h 3 (by decide), h 4 (by decide), h 5 (by decide), h 6 (by decide), h 7 (by decide), h 8 (by decide), h 9 (by decide), h 10 (by decide), h 11 (by decide), h 12 (by decide), h 13 (by decide), h 14 (by decide), h 15 (by decide)]
theorem marks_written (n : Nat) (R : List Int) : ∀ k, upTo (marks n R) n k = marks n [] k := by
  intro k
  simp only [upTo, marks, unread]
  by_cases h : k < n <;> simp [h]
theorem marks_first (n : Nat) : ∀ k, upTo fresh0 n k = marks n [] k := by
  intro k
  simp only [upTo, marks, unread, fresh0]
  by_cases h : k < n <;> simp [h]
theorem marks_read (n : Nat) (R : List Int) (e : Nat) : ∀ k, turn (marks n R) e false k = marks n (R ++ [(e : Int)]) k := by
  intro k
  simp only [turn, marks, unread, List.mem_append, List.mem_singleton]
  by_cases h : k = e
  · subst h; simp
  · have : ¬ ((k : Int) = (e : Int)) := by omega
    simp [h, this]
end Go.Proofs.YtgicehhenahfpaaDoor
