/- SampleEnds: the marks, and the state of the loop. -/
import Derived.Test.YtaeebbcjofkjlaaH
namespace Go.Proofs.Ytaeebbcjofkjlaa
open Go.RowKit

/-- The law's own marks. -/
def marks (G : Nat → Bool) : Array Value := #[.bool (G 0), .bool (G 1), .bool (G 2), .bool (G 3), .bool (G 4), .bool (G 5), .bool (G 6), .bool (G 7), .bool (G 8), .bool (G 9), .bool (G 10), .bool (G 11), .bool (G 12), .bool (G 13), .bool (G 14), .bool (G 15)]

theorem marks_at (G : Nat → Bool) : ∀ k : Nat, k < 16 → (marks G)[k]? = some (.bool (G k))
  | 0, _ => rfl
  | 1, _ => rfl
  | 2, _ => rfl
  | 3, _ => rfl
  | 4, _ => rfl
  | 5, _ => rfl
  | 6, _ => rfl
  | 7, _ => rfl
  | 8, _ => rfl
  | 9, _ => rfl
  | 10, _ => rfl
  | 11, _ => rfl
  | 12, _ => rfl
  | 13, _ => rfl
  | 14, _ => rfl
  | 15, _ => rfl
  | k + 16, h => absurd h (by omega)
theorem marks_turn (G : Nat → Bool) (x : Bool) : ∀ k : Nat, k < 16 → (marks G).setIfInBounds k (.bool x) = marks (turn G k x)
  | 0, _ => by kernel_rfl
  | 1, _ => by kernel_rfl
  | 2, _ => by kernel_rfl
  | 3, _ => by kernel_rfl
  | 4, _ => by kernel_rfl
  | 5, _ => by kernel_rfl
  | 6, _ => by kernel_rfl
  | 7, _ => by kernel_rfl
  | 8, _ => by kernel_rfl
  | 9, _ => by kernel_rfl
  | 10, _ => by kernel_rfl
  | 11, _ => by kernel_rfl
  | 12, _ => by kernel_rfl
  | 13, _ => by kernel_rfl
  | 14, _ => by kernel_rfl
  | 15, _ => by kernel_rfl
  | k + 16, h => absurd h (by omega)
theorem alloc_marks (w : World) : (Instr.alloc 51 true (.tuple #[])).run Try.prog w = .ok (.pointer (some ⟨w.heap.size, 0, none⟩)) (w.alloc (.cells (marks fresh0) 51)) := by kernel_rfl

/-- What stands in memory at a round's head: the channel in block N + 1, the law's marks in block M, the shape in block N; what was there is as it was. -/
structure St (w0 : World) (N M : Nat) (mo va en : Int) (has : Bool) (t : Int) (s : ByteArray) (F G : Nat → Bool) (w : World) : Prop where
  chan : Box w (N + 1) 57 (chan mo va en has t s F)
  marks : Box w M 51 (marks G)
  shape : Box w N 24 #[.int .i64 mo, .int .u32 va, .int .i64 en]
  below : Below N w0 w

namespace St
variable {w0 w w' : World} {N M : Nat} {mo va en t : Int} {has : Bool} {s : ByteArray} {F G : Nat → Bool}
theorem drawn (h : St w0 N M mo va en has t s F G w) (n : Nat) : St w0 N M mo va en has t s F G (w.drewN n) := ⟨h.chan.drawn n, h.marks.drawn n, h.shape.drawn n, below_drawn h.below n⟩
theorem more (h : St w0 N M mo va en has t s F G w) (o : Obj) : St w0 N M mo va en has t s F G (w.alloc o) :=
  ⟨h.chan.more o, h.marks.more o, h.shape.more o, h.below.alloc (Nat.le_of_lt h.shape.inHeap) o⟩
theorem later (h : St w0 N M mo va en has t s F G w) (d : Below w.heap.size w w') : St w0 N M mo va en has t s F G w' :=
  ⟨h.chan.over d h.chan.inHeap, h.marks.over d h.marks.inHeap, h.shape.over d h.shape.inHeap, h.below.trans (d.mono (Nat.le_of_lt h.shape.inHeap))⟩
/-- The channel alone has turned. -/
theorem turned {has' : Bool} {t' : Int} {s' : ByteArray} {F' : Nat → Bool} (h : St w0 N M mo va en has t s F G w) (hM : N + 1 < M) (d : Only (N + 1) w w') (c : Box w' (N + 1) 57 (_root_.Go.Proofs.Ytaeebbcjofkjlaa.chan mo va en has' t' s' F')) :
    St w0 N M mo va en has' t' s' F' G w' :=
  ⟨c, h.marks.only d (by omega), h.shape.only d (by omega), h.below.trans (d.below (by omega) (Nat.le_of_lt h.shape.inHeap))⟩
/-- One of the law's marks is turned. -/
theorem mark (h : St w0 N M mo va en has t s F G w) (hM : N + 1 < M) (k : Nat) (hk : k < 16) (x : Bool) : St w0 N M mo va en has t s F (turn G k x) (w.setCell ⟨M, k, none⟩ (.bool x)) :=
  ⟨h.chan.putFar (by simp; omega) _, by rw [← marks_turn G x k hk]; exact h.marks.put k _, h.shape.putFar (by simp; omega) _, h.below.setCell (by simp; omega) _⟩
end St

section
variable {w0 w : World} {N M : Nat} {mo va en t : Int} {has : Bool} {s : ByteArray} {F G : Nat → Bool}
/-- Fresh, of any of the sixteen. -/
theorem fresh_all (h : Box w (N + 1) 57 (chan mo va en has t s F)) (hF : ∀ i : Nat, en ≤ i → F i = false) (k : Nat) (hk : k < 16) :
    Calls Try.prog 16 #[.pointer (some ⟨N + 1, 0, none⟩), .int .i64 k] w fun e w' => e = .returned (.bool (F k)) ∧ w' = w := by
  by_cases hlt : (k : Int) < en
  · exact (fresh_in h k hlt hk).mono fun _ _ ⟨he, hw⟩ => ⟨he, hw.symm⟩
  · rw [hF k (by omega)]
    exact (fresh_out h k (.inr (by omega))).mono fun _ _ ⟨he, hw⟩ => ⟨he, hw.symm⟩
end
section
variable {m v n t : Int} {s : ByteArray} {F : Nat → Bool} {B : Nat} {w : World}
theorem read_at (hb : Box w B 57 (chan m v n true t s F)) (k : Nat) (K : Int) (hK : K = k) (h1 : K < n) (h16 : k < 16) (x : Int) (ht0 : 0 ≤ t) (hx0 : 0 ≤ x) (hx1 : x ≤ 18446744073709551615) (hv0 : 0 ≤ v) (hv1 : v ≤ 4294967295) (a : Int) (st : Bool)
    (ha : ageOf t x = a) (hst : decide (v < a) = st) :
    Calls Try.prog 15 #[.pointer (some ⟨B, 0, none⟩), .int .i64 K, .int .u64 x] w fun e w' =>
      e = .returned (.tuple #[.agg #[.string s, .int .u64 a, .bool st], .int .i64 0]) ∧ Box w' B 57 (chan m v n true t s (turn F k false)) ∧ Only B w w' := by
  subst hK ha hst
  exact read_ok hb k h1 h16 x ht0 hx0 hx1 hv0 hv1
end

end Go.Proofs.Ytaeebbcjofkjlaa
