/- Words for memory: a block whose cells are all known, kept over draws, new blocks and stores. -/
import Derived.Test.YtilfhkagfjdfkaaRows
import Derived.Test.YtilfhkagfjdfkaaProg
import Derived.WalkKit
import Derived.WalkSpells
import Derived.WalkLawsBesides
import Derived.Below
import Derived.Lib.Hide
import Derived.Outline
import Derived.Laws.OwnMore
import Derived.Deep.Draws
import Derived.Laws.Rows
import Derived.Deep.RegionWith
import Derived.Deep.QuietTactic
import Derived.BigQuiet
import Derived.RegionTactic
import Derived.BigRegion
import Derived.Deep.MidRow
import Derived.WalkSmall
import Derived.Laws.BytesArg
import Derived.Laws.AppendOwn
import Derived.OwnWalk
set_option linter.unusedVariables false
set_option linter.unusedSimpArgs false
namespace Go.Proofs.Ytilfhkagfjdfkaa
open Go.RowKit

theorem ret_eq {k : IntKind} {a b : Int} (h : a = b) : Ending.returned (.int k a) = .returned (.int k b) := by rw [h]
theorem val_eq {k : IntKind} {a b : Int} (h : a = b) : Value.int k a = .int k b := by rw [h]
/-- Block number b holds just these cells, none of them frozen. -/
def Box (w : World) (b : Nat) (t : TypeId) (cs : Array Value) : Prop := w.heap[b]? = some (.cells cs t (0, 0))

namespace Box
variable {w w' : World} {b : Nat} {t : TypeId} {cs : Array Value}
theorem inHeap (h : Box w b t cs) : b < w.heap.size := (Array.getElem?_eq_some_iff.1 h).1
theorem read (h : Box w b t cs) (i : Nat) : w.cell? ⟨b, i, none⟩ = cs[i]? := cell_of_row w b i cs t (0, 0) h
theorem warm (h : Box w b t cs) (i : Nat) : w.frozen? ⟨b, i, none⟩ = false := by
  have h' : w.heap[b]? = some (.cells cs t (0, 0)) := h
  simp [World.frozen?, h']
theorem made (w : World) (t : TypeId) (cs : Array Value) : Box (w.alloc (.cells cs t)) w.heap.size t cs := heap_alloc_new w _
theorem drawn (h : Box w b t cs) (n : Nat) : Box (w.drewN n) b t cs := h
theorem drawn1 (h : Box w b t cs) : Box w.drew b t cs := h
theorem more (h : Box w b t cs) (o : Obj) : Box (w.alloc o) b t cs := (Below.heap_alloc w o b h.inHeap).trans h
theorem put (h : Box w b t cs) (i : Nat) (u : Value) : Box (w.setCell ⟨b, i, none⟩ u) b t (cs.setIfInBounds i u) := by
  have h' : w.heap[b]? = some (.cells cs t (0, 0)) := h
  show (w.setCell ⟨b, i, none⟩ u).heap[b]? = _
  simp [World.setCell, Array.getElem?_modify, h']
theorem putFar (h : Box w b t cs) {p : Addr} (hp : b ≠ p.block) (u : Value) : Box (w.setCell p u) b t cs := (Below.heap_setCell w p u b hp).trans h
theorem row (h : Box w b t cs) (cs' : Array Value) : Box (w.setRow b cs') b t cs' := setRow_heap w b cs cs' t (0, 0) h
theorem rowFar (h : Box w b t cs) {g : Nat} (hg : b ≠ g) (cs' : Array Value) : Box (w.setRow g cs') b t cs := (setRow_other w g b cs' hg).trans h
theorem over {B : Nat} (h : Box w b t cs) (hb : Below B w w') (hg : b < B) : Box w' b t cs := (hb.block b hg).trans h
end Box


/-- Of the blocks that there were, block b alone may have turned. -/
structure Only (b : Nat) (w w' : World) : Prop where
  os : w'.os = w.os
  tape : w'.tape = w.tape
  output : w'.output = w.output
  size : w.heap.size ≤ w'.heap.size
  block : ∀ k, k < w.heap.size → k ≠ b → w'.heap[k]? = w.heap[k]?

namespace Only
variable {b : Nat} {w w' w'' : World}
theorem refl (b : Nat) (w : World) : Only b w w := ⟨rfl, rfl, rfl, Nat.le_refl _, fun _ _ _ => rfl⟩
theorem trans (h : Only b w w') (k : Only b w' w'') : Only b w w'' :=
  ⟨k.os.trans h.os, k.tape.trans h.tape, k.output.trans h.output, Nat.le_trans h.size k.size, fun i hi hn => (k.block i (Nat.lt_of_lt_of_le hi h.size) hn).trans (h.block i hi hn)⟩
theorem drawn (h : Only b w w') (n : Nat) : Only b w (w'.drewN n) := ⟨h.os, h.tape, h.output, h.size, h.block⟩
theorem drawn1 (h : Only b w w') : Only b w w'.drew := ⟨h.os, h.tape, h.output, h.size, h.block⟩
theorem more (h : Only b w w') (o : Obj) : Only b w (w'.alloc o) :=
  ⟨h.os, h.tape, h.output, Nat.le_trans h.size (by simp), fun i hi hn => (Below.heap_alloc w' o i (Nat.lt_of_lt_of_le hi h.size)).trans (h.block i hi hn)⟩
theorem put (h : Only b w w') {p : Addr} (hp : p.block = b ∨ w.heap.size ≤ p.block) (u : Value) : Only b w (w'.setCell p u) :=
  ⟨h.os, h.tape, h.output, by simpa [World.setCell] using h.size, fun i hi hn => (Below.heap_setCell w' p u i (by
    intro e
    rcases hp with hp | hp
    · exact hn (e.trans hp)
    · omega)).trans (h.block i hi hn)⟩
theorem below (h : Only b w w') {c : Nat} (hc : c ≤ b) (hs : c ≤ w.heap.size) : Below c w w' :=
  ⟨h.os, h.tape, h.output, h.size, fun i hi => h.block i (by omega) (by omega)⟩
theorem ofBelow (h : Below w.heap.size w w') : Only b w w' := ⟨h.os, h.tape, h.output, h.size, fun i hi _ => h.block i hi⟩
end Only
theorem Box.only {b g : Nat} {w w' : World} {t : TypeId} {cs : Array Value} (h : Box w g t cs) (k : Only b w w') (hg : g ≠ b) : Box w' g t cs := (k.block g h.inHeap hg).trans h

theorem box_eq {w : World} {b : Nat} {t : TypeId} {cs cs' : Array Value} (h : Box w b t cs) (e : cs = cs') : Box w b t cs' := e ▸ h
/-- A struct that is built out of its parts: its cells by name. -/
theorem wpList_build_to {P : Program} {ops : Array Oper} {rest : List Oper} {o : Oper} {a : Act} {w : World} {Q : Exit → Act → World → Prop} (hg : o.guard = none) (t : TypeId) (parts : Array (Nat × Operand)) (ho : o.op = .build t parts)
    (cells : Array Value) (hc : P.built t (parts.map fun (i, x) => (i, a.eval x)).toList = some cells) (h : wpList P ops Q rest (a.put o.dst (.agg cells)) w) : wpList P ops Q (o :: rest) a w :=
  wpList_build hg t parts ho (by rw [hc]; rfl) (by rw [hc]; exact h)

/-- Of the blocks that there were, those of K alone may have turned. -/
structure Touch (K : Nat → Prop) (w w' : World) : Prop where
  os : w'.os = w.os
  tape : w'.tape = w.tape
  output : w'.output = w.output
  size : w.heap.size ≤ w'.heap.size
  block : ∀ k, k < w.heap.size → ¬ K k → w'.heap[k]? = w.heap[k]?
/-- K, and what is new. -/
def grew (K : Nat → Prop) (w w' : World) (k : Nat) : Prop := K k ∨ (w.heap.size ≤ k ∧ k < w'.heap.size)
namespace Touch
variable {K L : Nat → Prop} {w w' w'' : World}
theorem refl (K : Nat → Prop) (w : World) : Touch K w w := ⟨rfl, rfl, rfl, Nat.le_refl _, fun _ _ _ => rfl⟩
theorem trans (h : Touch K w w') (k : Touch (grew K w w') w' w'') : Touch K w w'' :=
  ⟨k.os.trans h.os, k.tape.trans h.tape, k.output.trans h.output, Nat.le_trans h.size k.size, fun i hi hn => (k.block i (Nat.lt_of_lt_of_le hi h.size) (by
    rintro (h1 | h1)
    · exact hn h1
    · omega)).trans (h.block i hi hn)⟩
theorem drawn (h : Touch K w w') (n : Nat) : Touch K w (w'.drewN n) := ⟨h.os, h.tape, h.output, h.size, h.block⟩
theorem drawn1 (h : Touch K w w') : Touch K w w'.drew := ⟨h.os, h.tape, h.output, h.size, h.block⟩
theorem more (h : Touch K w w') (o : Obj) : Touch K w (w'.alloc o) :=
  ⟨h.os, h.tape, h.output, Nat.le_trans h.size (by simp), fun i hi hn => (Below.heap_alloc w' o i (Nat.lt_of_lt_of_le hi h.size)).trans (h.block i hi hn)⟩
theorem put (h : Touch K w w') {p : Addr} (hp : K p.block ∨ w.heap.size ≤ p.block) (u : Value) : Touch K w (w'.setCell p u) :=
  ⟨h.os, h.tape, h.output, by simpa [World.setCell] using h.size, fun i hi hn => (Below.heap_setCell w' p u i (by
    intro e
    rcases hp with hp | hp
    · exact hn (e ▸ hp)
    · omega)).trans (h.block i hi hn)⟩
theorem grown (h : Touch K w w') {row : Option Nat} (hg : w'.grownBy w'' row) (hr : ∀ k, row = some k → K k ∨ w.heap.size ≤ k) : Touch K w w'' :=
  ⟨hg.os.trans h.os, hg.tape.trans h.tape, hg.output.trans h.output, Nat.le_trans h.size hg.size, fun i hi hn => (hg.block i (Nat.lt_of_lt_of_le hi h.size) (fun e => by
    rcases hr i e.symm with h1 | h1
    · exact hn h1
    · omega)).trans (h.block i hi hn)⟩
theorem below {B : Nat} (h : Touch K w w') (hK : ∀ k, K k → B ≤ k) (hB : B ≤ w.heap.size) : Below B w w' :=
  ⟨h.os, h.tape, h.output, h.size, fun i hi => h.block i (by omega) (fun hk => by have := hK i hk; omega)⟩
theorem mono (h : Touch K w w') (hKL : ∀ k, K k → L k) : Touch L w w' := ⟨h.os, h.tape, h.output, h.size, fun i hi hn => h.block i hi (fun hk => hn (hKL i hk))⟩
theorem ofBelow (h : Below w.heap.size w w') : Touch K w w' := ⟨h.os, h.tape, h.output, h.size, fun i hi _ => h.block i hi⟩
end Touch
theorem Box.touch {K : Nat → Prop} {g : Nat} {w w' : World} {t : TypeId} {cs : Array Value} (h : Box w g t cs) (k : Touch K w w') (hg : ¬ K g) : Box w' g t cs := (k.block g h.inHeap hg).trans h
end Go.Proofs.Ytilfhkagfjdfkaa
