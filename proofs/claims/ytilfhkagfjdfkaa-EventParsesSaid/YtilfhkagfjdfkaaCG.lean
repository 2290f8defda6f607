/- A source: what it is in memory; what its methods answer. -/
import Derived.Test.YtilfhkagfjdfkaaCD
import Derived.Laws.OwnMore
import Derived.Deep.Draws
import Derived.Laws.Rows
import Derived.Deep.RegionWith
import Derived.Deep.QuietTactic
import Derived.BigQuiet
set_option linter.unusedVariables false
set_option linter.unusedSimpArgs false
namespace Go.Proofs.Ytilfhkagfjdfkaa
open Go.RowKit

abbrev src (S0 : Nat) (at' left : Int) (torn : Bool) : Array Value := #[.func (.func 39) #[] #[.pointer (some ⟨S0, 0, none⟩)], .int .i64 at', .int .i64 left, .bool torn]
/-- A source of a text, so much of it taken. -/
structure Src (w : World) (X S0 : Nat) (s : ByteArray) (p : Nat) (torn : Bool) : Prop where
  box : Box w X 81 (src S0 p (s.size - p : Int) torn)
  txt : Box w S0 9 #[.string s]
  ne : S0 ≠ X
  le : p ≤ s.size
theorem of_any (s : ByteArray) (w : World) : Calls Try.prog 25 #[.string s] w fun e w' => e = .returned (.pointer (some ⟨w.heap.size + 1, 0, none⟩)) ∧ Src w' (w.heap.size + 1) w.heap.size s 0 false ∧ Below w.heap.size w w' ∧ w.heap.size + 1 < w'.heap.size := by
  have hmf : ∀ (fn : Fn) (first cap : Array Value) (w : World), (Instr.makeFunc fn first cap).run Try.prog w = .ok (.func fn first cap) w := fun _ _ _ _ => rfl
  go_enter Try.func25, Try.ntmps25
  go_wp2
  go_ret
  have b0 : Box (w.alloc (.cells #[.string s] 9)) w.heap.size 9 #[.string s] := Box.made w 9 _
  have hz : (w.alloc (.cells #[.string s] 9)).heap.size = w.heap.size + 1 := by simp
  have b1 : Box ((w.alloc (.cells #[.string s] 9)).alloc (.cells (src w.heap.size 0 (s.size : Int) false) 81)) (w.heap.size + 1) 81 (src w.heap.size 0 (s.size : Int) false) := by
    rw [← hz]; exact Box.made _ 81 _
  refine ⟨rfl, ⟨?_, b0.more _, by omega, Nat.zero_le _⟩, ((Below.refl _ _).alloc (Nat.le_refl _) _).alloc (by simp) _, by simp⟩
  have e : (s.size - (0 : Nat) : Int) = (s.size : Int) := by omega
  rw [e]; exact b1
section
variable {w : World} {X S0 : Nat} {s : ByteArray} {p : Nat}
theorem made_any {torn : Bool} (h : Src w X S0 s p torn) : Calls Try.prog 40 #[.pointer (some ⟨X, 0, none⟩)] w fun e w' => e = .returned (.bool true) ∧ w = w' := by
  have c0 : w.cell? ⟨X, 0, none⟩ = some (.func (.func 39) #[] #[.pointer (some ⟨S0, 0, none⟩)]) := h.box.read 0
  have r0 : ∀ (fn : Fn) (a b : Array Value) (wx : World), (binOp .neq 79 (.func fn a b) .nilFunc).run Try.prog wx = .ok (.bool true) wx := fun _ _ _ _ => by kernel_rfl
  go_enter Try.func40, Try.ntmps40
  go_wp2
  go_ret
  exact ⟨rfl, rfl⟩
theorem left_any {torn : Bool} (h : Src w X S0 s p torn) : Calls Try.prog 26 #[.pointer (some ⟨X, 0, none⟩)] w fun e w' => e = .returned (.int .i64 (s.size - p : Int)) ∧ w = w' := by
  have c1 : w.cell? ⟨X, 2, none⟩ = some (.int .i64 (s.size - p : Int)) := h.box.read 2
  go_enter Try.func26, Try.ntmps26
  go_wp2_with (go_at_call 40; refine (made_any h).mono ?_; rintro e w' ⟨rfl, rfl⟩)
  go_ret
  exact ⟨rfl, rfl⟩
end
end Go.Proofs.Ytilfhkagfjdfkaa
