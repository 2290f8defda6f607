/- The document's queue: its cells, New. -/
import Derived.Test.YtnignbpgcopehaaV
set_option linter.unusedVariables false
set_option linter.unusedSimpArgs false
namespace Go.Proofs.Ytnignbpgcopehaa
open Go.RowKit
/-- A slice whose places read these strings. -/
def Strs (w : World) (a : Option Addr) (T : List ByteArray) : Prop := ∀ (j : Nat) (x : ByteArray), T[j]? = some x → ∃ b off, a = some ⟨b, off, none⟩ ∧ b < w.heap.size ∧ w.cell? ⟨b, off + j, none⟩ = some (.string x)
/-- The document's queue. -/
structure Rq (w : World) (B d m : Nat) (T : List ByteArray) (a : Option Addr) (cap : Nat) : Prop where
  box : Box w B 56 #[.slice a T.length cap, .int .i64 d, .int .i64 m]
  strs : Strs w a T
  hc : T.length ≤ cap
section
variable {w w' : World} {B d m cap : Nat} {T : List ByteArray} {a : Option Addr}
theorem Strs.over (h : Strs w a T) (k : Below w.heap.size w w') : Strs w' a T := fun j x hj => by
  obtain ⟨b, off, e, hb, hc⟩ := h j x hj
  exact ⟨b, off, e, Nat.lt_of_lt_of_le hb k.size, (k.cell (by exact hb)).trans hc⟩
theorem Rq.over (h : Rq w B d m T a cap) (k : Below w.heap.size w w') : Rq w' B d m T a cap := ⟨h.box.over k h.box.inHeap, h.strs.over k, h.hc⟩
theorem rnew_ok (d m : Nat) (h0 : 1 ≤ d) (h1 : d ≤ 16) (h2 : 1 ≤ m) (h3 : m ≤ 64) (w : World) :
    Calls Try.prog 8 #[.int .u8 d, .int .u8 m] w fun e w' => e = .returned (.tuple #[.pointer (some ⟨w.heap.size, 0, none⟩), .int .i64 0]) ∧ Rq w' w.heap.size d m [] none 0 ∧ Below w.heap.size w w' ∧ w.heap.size < w'.heap.size := by
  have HP : Hid (Rq (w.alloc (.cells #[.slice none 0 0, .int .i64 d, .int .i64 m] 56)) w.heap.size d m [] none 0 ∧ Below w.heap.size w (w.alloc (.cells #[.slice none 0 0, .int .i64 d, .int .i64 m] 56)) ∧ w.heap.size < (w.alloc (.cells #[.slice none 0 0, .int .i64 d, .int .i64 m] 56)).heap.size) :=
    ⟨⟨Box.made _ _ _, fun j x hj => by simp at hj, Nat.le_refl _⟩, (Below.refl _ _).alloc (Nat.le_refl _) _, by simp⟩
  go_enter Try.func8, Try.ntmps8
  go_wp2
  go_ret2
  exact ⟨rfl, HP.out⟩
theorem rnew_bad (d m : Nat) (h : ¬ (1 ≤ d ∧ d ≤ 16 ∧ 1 ≤ m ∧ m ≤ 64)) (w : World) :
    Calls Try.prog 8 #[.int .u8 d, .int .u8 m] w fun e w' => e = .returned (.tuple #[.pointer none, .int .i64 2]) ∧ w = w' := by
  by_cases q0 : 1 ≤ d
  · by_cases q1 : d ≤ 16
    · by_cases q2 : 1 ≤ m
      · have q3 : 64 < m := by omega
        clear h
        go_enter Try.func8, Try.ntmps8
        go_wp2
        go_ret2
        exact ⟨rfl, rfl⟩
      · clear h
        go_enter Try.func8, Try.ntmps8
        go_wp2
        go_ret2
        exact ⟨rfl, rfl⟩
    · clear h
      go_enter Try.func8, Try.ntmps8
      go_wp2
      go_ret2
      exact ⟨rfl, rfl⟩
  · clear h
    go_enter Try.func8, Try.ntmps8
    go_wp2
    go_ret2
    exact ⟨rfl, rfl⟩
end
end Go.Proofs.Ytnignbpgcopehaa
