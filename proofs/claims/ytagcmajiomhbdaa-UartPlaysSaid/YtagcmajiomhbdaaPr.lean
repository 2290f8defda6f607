/- Two things side by side in memory, each of blocks of its own; and blocks beside them that stay as they are. -/
import Derived.Test.YtagcmajiomhbdaaBx
set_option linter.unusedVariables false
set_option linter.unusedSimpArgs false
namespace Go.Proofs.Ytagcmajiomhbdaa
open Go.RowKit
/-- A thing that stays while none of its blocks turns. -/
def Kept (P : World → (Nat → Prop) → Prop) : Prop := ∀ {w w' : World} {K L : Nat → Prop}, P w K → Touch L w w' → (∀ b, K b → ¬ L b) → P w' K
structure PairK (P Q : World → (Nat → Prop) → Prop) (ex : List (Nat × TypeId × Array Value)) (w wr : World) (K K' : Nat → Prop) : Prop where
  p : P wr K
  q : Q wr K'
  hK : ∀ b, K b → w.heap.size ≤ b ∧ b < wr.heap.size
  hK' : ∀ b, K' b → w.heap.size ≤ b ∧ b < wr.heap.size
  dis : ∀ b, K b → ¬ K' b
  xb : ∀ x ∈ ex, Box wr x.1 x.2.1 x.2.2 ∧ ¬ K x.1 ∧ ¬ K' x.1
  bel : Below w.heap.size w wr
def Pair (P Q : World → (Nat → Prop) → Prop) (ex : List (Nat × TypeId × Array Value)) (w wr : World) : Prop := ∃ K K', PairK P Q ex w wr K K'
section
variable {P P2 Q Q2 : World → (Nat → Prop) → Prop} {ex : List (Nat × TypeId × Array Value)} {w wr w2 : World} {K K' : Nat → Prop}
theorem PairK.left (kq : Kept Q) (h : PairK P Q ex w wr K K') (hp : P2 w2 (grew K wr w2)) (ht : Touch K wr w2) : PairK P2 Q ex w w2 (grew K wr w2) K' :=
  ⟨hp, kq h.q ht (fun b hb hk => h.dis b hk hb), fun b hb => by
    have hs := ht.size
    have hb2 := h.bel.size
    rcases hb with hb | hb
    · have := h.hK b hb; omega
    · omega, fun b hb => by
    have hs := ht.size
    have := h.hK' b hb; omega, fun b hb hk => by
    rcases hb with hb | hb
    · exact h.dis b hb hk
    · have := h.hK' b hk; omega, fun x hx => by
    obtain ⟨h1, h2, h3⟩ := h.xb x hx
    refine ⟨h1.touch ht h2, fun hb => ?_, h3⟩
    have := h1.inHeap
    rcases hb with hb | hb
    · exact h2 hb
    · omega, h.bel.trans (ht.below (fun b hb => (h.hK b hb).1) h.bel.size)⟩
theorem PairK.symm (h : PairK P Q ex w wr K K') : PairK Q P ex w wr K' K := ⟨h.q, h.p, h.hK', h.hK, fun b hb hk => h.dis b hk hb, fun x hx => ⟨(h.xb x hx).1, (h.xb x hx).2.2, (h.xb x hx).2.1⟩, h.bel⟩
theorem Pair.symm (h : Pair P Q ex w wr) : Pair Q P ex w wr := by obtain ⟨K, K', h⟩ := h; exact ⟨K', K, h.symm⟩
theorem Pair.below (kp : Kept P) (kq : Kept Q) (h : Pair P Q ex w wr) (hb : Below wr.heap.size wr w2) : Pair P Q ex w w2 := by
  obtain ⟨K, K', h⟩ := h
  have ht : Touch (fun _ => False) wr w2 := Touch.ofBelow hb
  exact ⟨K, K', kp h.p ht (fun _ _ => id), kq h.q ht (fun _ _ => id), fun b hk => by have := h.hK b hk; have := hb.size; omega, fun b hk => by have := h.hK' b hk; have := hb.size; omega, h.dis, fun x hx => ⟨(h.xb x hx).1.over hb (h.xb x hx).1.inHeap, (h.xb x hx).2⟩, h.bel.trans (hb.mono h.bel.size)⟩
theorem Pair.more (kp : Kept P) (kq : Kept Q) (h : Pair P Q ex w wr) (o : Obj) : Pair P Q ex w (wr.alloc o) := h.below kp kq ((Below.refl _ _).alloc (Nat.le_refl _) o)
theorem Pair.drawn (kp : Kept P) (kq : Kept Q) (h : Pair P Q ex w wr) (n : Nat) : Pair P Q ex w (wr.drewN n) := h.below kp kq (below_drewN (Below.refl wr.heap.size wr) n)
theorem Pair.bel (h : Pair P Q ex w wr) : Below w.heap.size w wr := by obtain ⟨K, K', h⟩ := h; exact h.bel
/-- A new block beside them. -/
theorem Pair.with (kp : Kept P) (kq : Kept Q) (h : Pair P Q ex w wr) (t : TypeId) (cs : Array Value) : Pair P Q ((wr.heap.size, t, cs) :: ex) w (wr.alloc (.cells cs t)) := by
  obtain ⟨K, K', h2⟩ := h.more kp kq (.cells cs t)
  obtain ⟨L, L', h3⟩ := h
  have hb : Below wr.heap.size wr (wr.alloc (.cells cs t)) := (Below.refl _ _).alloc (Nat.le_refl _) _
  have ht : Touch (fun _ => False) wr (wr.alloc (.cells cs t)) := Touch.ofBelow hb
  refine ⟨L, L', kp h3.p ht (fun _ _ => id), kq h3.q ht (fun _ _ => id), fun b hk => by have := h3.hK b hk; have := hb.size; omega, fun b hk => by have := h3.hK' b hk; have := hb.size; omega, h3.dis, fun x hx => ?_, h2.bel⟩
  rcases List.mem_cons.1 hx with rfl | hx
  · exact ⟨Box.made _ _ _, fun hk => by have := h3.hK _ hk; simp at this, fun hk => by have := h3.hK' _ hk; simp at this⟩
  · exact ⟨(h3.xb x hx).1.more _, (h3.xb x hx).2⟩
theorem Pair.box (h : Pair P Q ex w wr) {b : Nat} {t : TypeId} {cs : Array Value} (hx : (b, t, cs) ∈ ex) : Box wr b t cs := by obtain ⟨K, K', h⟩ := h; exact (h.xb _ hx).1
theorem Pair.head {b : Nat} {t : TypeId} {cs : Array Value} (h : Pair P Q ((b, t, cs) :: ex) w wr) : Box wr b t cs := h.box (List.mem_cons_self ..)
theorem Pair.rest {x : Nat × TypeId × Array Value} (h : Pair P Q (x :: ex) w wr) : Pair P Q ex w wr := by
  obtain ⟨K, K', h⟩ := h
  exact ⟨K, K', h.p, h.q, h.hK, h.hK', h.dis, fun y hy => h.xb y (List.mem_cons_of_mem _ hy), h.bel⟩
/-- Behind a call that does things to the first one alone. -/
theorem Pair.leftOf (kq : Kept Q) {R : Ending → Prop} {p : Program} {f : Nat} {args : Array Value} (h : Pair P Q ex w wr)
    (c : ∀ K, P wr K → Calls p f args wr fun e w2 => R e ∧ P2 w2 (grew K wr w2) ∧ Touch K wr w2) : Calls p f args wr fun e w2 => R e ∧ Pair P2 Q ex w w2 := by
  obtain ⟨K, K', h⟩ := h
  refine (c K h.p).mono ?_
  rintro e w2 ⟨he, hp, ht⟩
  exact ⟨he, _, _, h.left kq hp ht⟩
end
end Go.Proofs.Ytagcmajiomhbdaa
