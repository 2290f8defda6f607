/- A table that stands in memory; Windows, and what its iterator does, whatever the loop over it. -/
import Derived.Test.YtnfnhhphoiebbaaDoorFg
import Derived.Test.YtnfnhhphoiebbaaDoorHg
import Derived.RangeFuncNested
import Derived.RangeFuncBound
import Derived.RangeFuncCalls
import Derived.RangeFuncLeaves
import Derived.RangeFuncFrom
import Derived.RangeFuncBox
import Derived.Shelf.Abstract
import Derived.Shelf.RegionOpen
import Derived.OwnWalkIn
import Derived.TacticsInMore
import Derived.LoopNIn
import Derived.LoopIn
set_option linter.unusedVariables false
set_option linter.unusedSimpArgs false
namespace Go.Proofs.YtnfnhhphoiebbaaDoor
open Go.RowKit Go.Shelf
attribute [local go_sem] Oper.semAt_some
/-- Blocks of cells stay, all but X. -/
def KX (X : Nat) (W W' : World) : Prop := ∀ k, k ≠ X → ∀ cs t fz, W.heap[k]? = some (.cells cs t fz) → W'.heap[k]? = some (.cells cs t fz)
theorem KX.t {X : Nat} {A B C : World} (h : KX X A B) (k : KX X B C) : KX X A C := fun i hi cs t fz hh => k i hi cs t fz (h i hi cs t fz hh)
theorem KX.b {X n : Nat} (W : World) (l : Nat) (o o' : Obj) (_ : n ≤ l) (h : W.heap[l]? = some o) (hc : o.isCells = false) (_ : o.isWalk = false) : KX X W (W.putObj l o') := fun k hk cs t fz hh => by
  by_cases e : k = l
  · subst e
    rw [h] at hh
    cases hh
    cases hc
  · exact (World.putObj_heap_other (fun e' => e e')).trans hh
theorem KX.below {X : Nat} {W W' : World} (h : Below W.heap.size W W') : KX X W W' := fun k _ cs t fz hh => (h.block k (Array.getElem?_eq_some_iff.1 hh).1).trans hh
/-- What a loop over the windows is given. -/
structure It where
  a : Nat
  g : Nat
  s : Nat
  ha : a ≤ 1024
  hg : g < 256
  hs : s ≤ 1024
def toIt (a : Nat) (w : Win) : It := ⟨min a 1024, w.1 % 256, min w.2 1024, by omega, by omega, by omega⟩
def items : Nat → List Win → List It
  | _, [] => []
  | s, w :: r => toIt s w :: items (s + w.2) r
theorem items_len : ∀ (s : Nat) (l : List Win), (items s l).length = l.length
  | _, [] => rfl
  | s, w :: r => by simp [items, items_len]
theorem items_snoc : ∀ (s : Nat) (l : List Win) (f : Win), items s (l ++ [f]) = items s l ++ [toIt (s + tot l) f]
  | s, [], f => by simp [items, tot]
  | s, w :: r, f => by simp [items, items_snoc, tot]; congr 1; omega
theorem items_next {l : List Win} {k : Nat} {f : Win} (h : l[k]? = some f) : items 0 (l.take (k + 1)) = items 0 (l.take k) ++ [toIt (tot (l.take k)) f] := by
  rw [take_snoc h, items_snoc, Nat.zero_add]
theorem items_pre : ∀ (s : Nat) (l : List Win) (k : Nat), items s (l.take k) <+: items s l
  | s, [], k => by simp [items]
  | s, w :: r, 0 => by simp [items]
  | s, w :: r, k + 1 => by
    simp only [List.take_succ_cons, items]
    exact (List.prefix_cons_inj _).2 (items_pre _ r k)
/-- A table that stands in memory. -/
structure Tb (w : World) (p wb wc bb bo bc : Nat) (l : List Win) : Prop where
  box : Box w p 57 #[.slice (some ⟨wb, 0, none⟩) l.length wc, .slice (some ⟨bb, bo, none⟩) l.length bc, .int .u64 (tot l)]
  wbx : ∃ cur, Box w wb 51 cur ∧ ∀ (k : Nat) (f : Win), l[k]? = some f → cur[k * 2]? = some (.int .u8 f.1) ∧ cur[k * 2 + 1]? = some (.int .u16 f.2)
  bbx : ∃ cur, Box w bb 32 cur ∧ ∀ (k : Nat) (f : Win), l[k]? = some f → cur[bo + k]? = some (.int .u64 (tot (l.take k) : Nat))
  pos : 0 < tot l
  top : tot l ≤ 1024
  n32 : l.length ≤ 32
  bnd : ∀ (k : Nat) (f : Win), l[k]? = some f → f.1 < 256 ∧ f.2 < 65536
section
variable {w w' : World} {p wb wc bb bo bc : Nat} {l : List Win}
theorem Tb.over (h : Tb w p wb wc bb bo bc l) {B : Nat} (k : Below B w w') (hB : w.heap.size ≤ B) : Tb w' p wb wc bb bo bc l := by
  obtain ⟨c1, b1, h1⟩ := h.wbx
  obtain ⟨c2, b2, h2⟩ := h.bbx
  exact ⟨h.box.over k (Nat.lt_of_lt_of_le h.box.inHeap hB), ⟨c1, b1.over k (Nat.lt_of_lt_of_le b1.inHeap hB), h1⟩, ⟨c2, b2.over k (Nat.lt_of_lt_of_le b2.inHeap hB), h2⟩, h.pos, h.top, h.n32, h.bnd⟩
theorem Tb.kx (h : Tb w p wb wc bb bo bc l) {X : Nat} (k : KX X w w') (hp : p ≠ X) (hw : wb ≠ X) (hb : bb ≠ X) : Tb w' p wb wc bb bo bc l := by
  obtain ⟨c1, b1, h1⟩ := h.wbx
  obtain ⟨c2, b2, h2⟩ := h.bbx
  exact ⟨k p hp _ _ _ h.box, ⟨c1, k wb hw _ _ _ b1, h1⟩, ⟨c2, k bb hb _ _ _ b2, h2⟩, h.pos, h.top, h.n32, h.bnd⟩
theorem Tb.win (h : Tb w p wb wc bb bo bc l) {k : Nat} {f : Win} (hk : l[k]? = some f) : w.cell? ⟨wb, k * 2, none⟩ = some (.int .u8 f.1) ∧ w.cell? ⟨wb, k * 2 + 1, none⟩ = some (.int .u16 f.2) ∧ w.cell? ⟨bb, bo + k, none⟩ = some (.int .u64 (tot (l.take k) : Nat)) := by
  obtain ⟨c1, b1, h1⟩ := h.wbx
  obtain ⟨c2, b2, h2⟩ := h.bbx
  exact ⟨(b1.read _).trans (h1 k f hk).1, (b1.read _).trans (h1 k f hk).2, (b2.read _).trans (h2 k f hk)⟩
theorem Tb.steps (h : Tb w p wb wc bb bo bc l) {k : Nat} {f : Win} (hk : l[k]? = some f) : tot (l.take k) + f.2 ≤ 1024 := by
  have := tot_take_le l (k + 1)
  rw [tot_take hk] at this
  have := h.top
  omega
theorem made_any (h : Tb w p wb wc bb bo bc l) : Calls Tryd.prog 24 #[.pointer (some ⟨p, 0, none⟩)] w fun e w' => e = .returned (.bool true) ∧ w = w' := by
  have c2 := h.box.read 2
  have h1 : (0 : Int) < (tot l : Int) := by have := h.pos; omega
  generalize (tot l : Int) = t at c2 h1
  clear h
  go_enter Tryd.func24, Tryd.ntmps24
  go_wp2
  go_ret
  exact ⟨rfl, rfl⟩
theorem length_any (h : Tb w p wb wc bb bo bc l) : Calls Tryd.prog 9 #[.pointer (some ⟨p, 0, none⟩)] w fun e w' => e = .returned (.int .u64 (tot l)) ∧ w = w' := by
  have c2 := h.box.read 2
  have HM := Lib.hid (made_any h)
  clear h
  generalize (tot l : Int) = t at c2 ⊢
  go_enter Tryd.func9, Tryd.ntmps9
  go_wp2_with (go_at_call 24; refine HM.out.mono ?_; rintro e w' ⟨rfl, rfl⟩)
  go_ret
  exact ⟨rfl, rfl⟩
theorem windows_any (p : Nat) (w : World) : Calls Tryd.prog 19 #[.pointer (some ⟨p, 0, none⟩)] w fun e w' => e = .returned (.func (.func 30) #[] #[.pointer (some ⟨w.heap.size, 0, none⟩)]) ∧ w' = w.alloc (.cells #[.pointer (some ⟨p, 0, none⟩)] 26) := by
  go_enter Tryd.func19, Tryd.ntmps19
  go_wp2
  go_ret
  exact ⟨rfl, rfl⟩
end
end Go.Proofs.YtnfnhhphoiebbaaDoor
