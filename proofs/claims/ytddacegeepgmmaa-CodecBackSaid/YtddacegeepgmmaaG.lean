/- A source: what it is in memory; what its methods answer. -/
import Derived.Test.YtddacegeepgmmaaD
import Derived.Laws.OwnMore
import Derived.Deep.Draws
import Derived.Laws.Rows
import Derived.Deep.RegionWith
import Derived.Deep.QuietTactic
import Derived.BigQuiet
set_option linter.unusedVariables false
set_option linter.unusedSimpArgs false
namespace Go.Proofs.Ytddacegeepgmmaa
open Go.RowKit

/-- Block number b holds just these cells, none of them frozen. -/
def Box (w : World) (b : Nat) (t : TypeId) (cs : Array Value) : Prop := w.heap[b]? = some (.cells cs t (0, 0))

namespace Box
variable {w w' : World} {b : Nat} {t : TypeId} {cs : Array Value}
theorem inHeap (h : Box w b t cs) : b < w.heap.size := (Array.getElem?_eq_some_iff.1 h).1
theorem read (h : Box w b t cs) (i : Nat) : w.cell? ⟨b, i, none⟩ = cs[i]? := cell_of_row w b i cs t (0, 0) h
theorem warm (h : Box w b t cs) (i : Nat) : w.frozen? ⟨b, i, none⟩ = false := by
  have h' : w.heap[b]? = some (.cells cs t (0, 0)) := h
  simp [World.frozen?, h']
theorem made (w : World) (t : TypeId) (cs : Array Value) : Box (w.alloc (.cells cs t)) w.heap.size t cs := heap_alloc_new w _
theorem drawn (h : Box w b t cs) (n : Nat) : Box (w.drewN n) b t cs := h
theorem drawn1 (h : Box w b t cs) : Box w.drew b t cs := h
theorem more (h : Box w b t cs) (o : Obj) : Box (w.alloc o) b t cs := (Below.heap_alloc w o b h.inHeap).trans h
theorem put (h : Box w b t cs) (i : Nat) (u : Value) : Box (w.setCell ⟨b, i, none⟩ u) b t (cs.setIfInBounds i u) := by
  have h' : w.heap[b]? = some (.cells cs t (0, 0)) := h
  show (w.setCell ⟨b, i, none⟩ u).heap[b]? = _
  simp [World.setCell, Array.getElem?_modify, h']
theorem putFar (h : Box w b t cs) {p : Addr} (hp : b ≠ p.block) (u : Value) : Box (w.setCell p u) b t cs := (Below.heap_setCell w p u b hp).trans h
theorem row (h : Box w b t cs) (cs' : Array Value) : Box (w.setRow b cs') b t cs' := setRow_heap w b cs cs' t (0, 0) h
theorem rowFar (h : Box w b t cs) {g : Nat} (hg : b ≠ g) (cs' : Array Value) : Box (w.setRow g cs') b t cs := (setRow_other w g b cs' hg).trans h
theorem over {B : Nat} (h : Box w b t cs) (hb : Below B w w') (hg : b < B) : Box w' b t cs := (hb.block b hg).trans h
end Box


/-- Of the blocks that there were, block b alone may have turned. -/
structure Only (b : Nat) (w w' : World) : Prop where
  os : w'.os = w.os
  tape : w'.tape = w.tape
  output : w'.output = w.output
  size : w.heap.size ≤ w'.heap.size
  block : ∀ k, k < w.heap.size → k ≠ b → w'.heap[k]? = w.heap[k]?

namespace Only
variable {b : Nat} {w w' w'' : World}
theorem refl (b : Nat) (w : World) : Only b w w := ⟨rfl, rfl, rfl, Nat.le_refl _, fun _ _ _ => rfl⟩
theorem trans (h : Only b w w') (k : Only b w' w'') : Only b w w'' :=
  ⟨k.os.trans h.os, k.tape.trans h.tape, k.output.trans h.output, Nat.le_trans h.size k.size, fun i hi hn => (k.block i (Nat.lt_of_lt_of_le hi h.size) hn).trans (h.block i hi hn)⟩
theorem drawn (h : Only b w w') (n : Nat) : Only b w (w'.drewN n) := ⟨h.os, h.tape, h.output, h.size, h.block⟩
theorem drawn1 (h : Only b w w') : Only b w w'.drew := ⟨h.os, h.tape, h.output, h.size, h.block⟩
theorem more (h : Only b w w') (o : Obj) : Only b w (w'.alloc o) :=
  ⟨h.os, h.tape, h.output, Nat.le_trans h.size (by simp), fun i hi hn => (Below.heap_alloc w' o i (Nat.lt_of_lt_of_le hi h.size)).trans (h.block i hi hn)⟩
theorem put (h : Only b w w') {p : Addr} (hp : p.block = b ∨ w.heap.size ≤ p.block) (u : Value) : Only b w (w'.setCell p u) :=
  ⟨h.os, h.tape, h.output, by simpa [World.setCell] using h.size, fun i hi hn => (Below.heap_setCell w' p u i (by
    intro e
    rcases hp with hp | hp
    · exact hn (e.trans hp)
    · omega)).trans (h.block i hi hn)⟩
theorem below (h : Only b w w') {c : Nat} (hc : c ≤ b) (hs : c ≤ w.heap.size) : Below c w w' :=
  ⟨h.os, h.tape, h.output, h.size, fun i hi => h.block i (by omega) (by omega)⟩
theorem ofBelow (h : Below w.heap.size w w') : Only b w w' := ⟨h.os, h.tape, h.output, h.size, fun i hi _ => h.block i hi⟩
end Only
theorem Box.only {b g : Nat} {w w' : World} {t : TypeId} {cs : Array Value} (h : Box w g t cs) (k : Only b w w') (hg : g ≠ b) : Box w' g t cs := (k.block g h.inHeap hg).trans h

abbrev src (S0 : Nat) (at' left : Int) (torn : Bool) : Array Value := #[.func (.func 26) #[] #[.pointer (some ⟨S0, 0, none⟩)], .int .i64 at', .int .i64 left, .bool torn]
/-- A source of a text, so much of it taken. -/
structure Src (w : World) (X S0 : Nat) (s : ByteArray) (p : Nat) (torn : Bool) : Prop where
  box : Box w X 57 (src S0 p (s.size - p : Int) torn)
  txt : Box w S0 9 #[.string s]
  ne : S0 ≠ X
  le : p ≤ s.size
theorem of_any (s : ByteArray) (w : World) : Calls Try.prog 12 #[.string s] w fun e w' => e = .returned (.pointer (some ⟨w.heap.size + 1, 0, none⟩)) ∧ Src w' (w.heap.size + 1) w.heap.size s 0 false ∧ Below w.heap.size w w' ∧ w.heap.size + 1 < w'.heap.size := by
  have hmf : ∀ (fn : Fn) (first cap : Array Value) (w : World), (Instr.makeFunc fn first cap).run Try.prog w = .ok (.func fn first cap) w := fun _ _ _ _ => rfl
  go_enter Try.func12, Try.ntmps12
  go_wp2
  go_ret
  have b0 : Box (w.alloc (.cells #[.string s] 9)) w.heap.size 9 #[.string s] := Box.made w 9 _
  have hz : (w.alloc (.cells #[.string s] 9)).heap.size = w.heap.size + 1 := by simp
  have b1 : Box ((w.alloc (.cells #[.string s] 9)).alloc (.cells (src w.heap.size 0 (s.size : Int) false) 57)) (w.heap.size + 1) 57 (src w.heap.size 0 (s.size : Int) false) := by
    rw [← hz]; exact Box.made _ 57 _
  refine ⟨rfl, ⟨?_, b0.more _, by omega, Nat.zero_le _⟩, ((Below.refl _ _).alloc (Nat.le_refl _) _).alloc (by simp) _, by simp⟩
  have e : (s.size - (0 : Nat) : Int) = (s.size : Int) := by omega
  rw [e]; exact b1
section
variable {w : World} {X S0 : Nat} {s : ByteArray} {p : Nat}
theorem made_any {torn : Bool} (h : Src w X S0 s p torn) : Calls Try.prog 27 #[.pointer (some ⟨X, 0, none⟩)] w fun e w' => e = .returned (.bool true) ∧ w = w' := by
  have c0 : w.cell? ⟨X, 0, none⟩ = some (.func (.func 26) #[] #[.pointer (some ⟨S0, 0, none⟩)]) := h.box.read 0
  have r0 : ∀ (fn : Fn) (a b : Array Value) (wx : World), (binOp .neq 55 (.func fn a b) .nilFunc).run Try.prog wx = .ok (.bool true) wx := fun _ _ _ _ => rfl
  go_enter Try.func27, Try.ntmps27
  go_wp2
  go_ret
  exact ⟨rfl, rfl⟩
theorem at_any {torn : Bool} (h : Src w X S0 s p torn) : Calls Try.prog 17 #[.pointer (some ⟨X, 0, none⟩)] w fun e w' => e = .returned (.int .i64 p) ∧ w = w' := by
  have c1 : w.cell? ⟨X, 1, none⟩ = some (.int .i64 p) := h.box.read 1
  go_enter Try.func17, Try.ntmps17
  go_wp2_with (go_at_call 27; refine (made_any h).mono ?_; rintro e w' ⟨rfl, rfl⟩)
  go_ret
  exact ⟨rfl, rfl⟩
theorem left_any {torn : Bool} (h : Src w X S0 s p torn) : Calls Try.prog 18 #[.pointer (some ⟨X, 0, none⟩)] w fun e w' => e = .returned (.int .i64 (s.size - p : Int)) ∧ w = w' := by
  have c1 : w.cell? ⟨X, 2, none⟩ = some (.int .i64 (s.size - p : Int)) := h.box.read 2
  go_enter Try.func18, Try.ntmps18
  go_wp2_with (go_at_call 27; refine (made_any h).mono ?_; rintro e w' ⟨rfl, rfl⟩)
  go_ret
  exact ⟨rfl, rfl⟩
def failN (torn : Bool) : Int := if torn then 4 else 0
theorem fail_any {torn : Bool} (h : Src w X S0 s p torn) : Calls Try.prog 19 #[.pointer (some ⟨X, 0, none⟩)] w fun e w' => e = .returned (.int .i64 (failN torn)) ∧ w = w' := by
  have c1 : w.cell? ⟨X, 3, none⟩ = some (.bool torn) := h.box.read 3
  cases torn
  all_goals
    go_enter Try.func19, Try.ntmps19
    go_wp2_with (go_at_call 27; refine (made_any h).mono ?_; rintro e w' ⟨rfl, rfl⟩)
    go_ret
    exact ⟨rfl, rfl⟩
def endN (torn : Bool) (left : Int) : Int := if torn then 4 else if 0 < left then 5 else 0
theorem end_any {torn : Bool} (h : Src w X S0 s p torn) : Calls Try.prog 21 #[.pointer (some ⟨X, 0, none⟩)] w fun e w' => e = .returned (.int .i64 (endN torn (s.size - p : Int))) ∧ w = w' := by
  have c2 : w.cell? ⟨X, 2, none⟩ = some (.int .i64 (s.size - p : Int)) := h.box.read 2
  cases torn
  · by_cases hl : (0 : Int) < s.size - p
    · go_enter Try.func21, Try.ntmps21
      go_wp2_with (go_at_call 19; refine (fail_any h).mono ?_; rintro e w' ⟨rfl, rfl⟩)
      go_ret
      exact ⟨ret_eq (by unfold endN; (repeat' split) <;> simp_all <;> omega), rfl⟩
    · go_enter Try.func21, Try.ntmps21
      go_wp2_with (go_at_call 19; refine (fail_any h).mono ?_; rintro e w' ⟨rfl, rfl⟩)
      go_ret
      exact ⟨ret_eq (by unfold endN; (repeat' split) <;> simp_all <;> omega), rfl⟩
  · go_enter Try.func21, Try.ntmps21
    go_wp2_with (go_at_call 19; refine (fail_any h).mono ?_; rintro e w' ⟨rfl, rfl⟩)
    go_ret
    exact ⟨rfl, rfl⟩
end
end Go.Proofs.Ytddacegeepgmmaa
