/- Same of the document. -/
import Derived.Test.YtgicehhenahfpaaDoorV
set_option linter.unusedVariables false
set_option linter.unusedSimpArgs false
namespace Go.Proofs.YtgicehhenahfpaaDoor
open Go.RowKit
attribute [local go_sem] Oper.semAt_some
/-- What the document's channel tells. -/
def tellL (n : Nat) : Option (Nat × ByteArray × List Int) → List UInt8
  | none => [45]
  | some (t, s, R) => textL t s.data.toList (unread R) n
/-- A message that may be. -/
def okO : Option (Nat × ByteArray × List Int) → Prop
  | none => True
  | some (t, s, _) => t < 18446744073709551616 ∧ s.size ≤ 1048576
theorem dtext_any {w : World} {B H c : Nat} {m v : Int} {n : Nat} {o : Option (Nat × ByteArray × List Int)} (h : Dc w B H m v n c o) (hc : c ≤ 1048576) (hn : n ≤ 16) (ho : okO o) :
    Calls Tryd.prog 16 #[.pointer (some ⟨B, 0, none⟩)] w fun e w' => e = .returned (.string (st (tellL n o))) ∧ Below w.heap.size w w' := by
  rcases o with _ | ⟨t, s, R⟩
  · exact dtext_none h
  · obtain ⟨g, k, cap, xs, rv, hd⟩ := h
    exact dtext_ok hd hc hn ho.2 ho.1
theorem Dc.cells {w : World} {B H c : Nat} {m v n : Int} {o : Option (Nat × ByteArray × List Int)} (h : Dc w B H m v n c o) : ∃ sl, Box w B 36 (dch m v n sl) := by
  rcases o with _ | ⟨t, s, R⟩
  · exact ⟨_, h⟩
  · obtain ⟨g, k, cap, xs, rv, hd⟩ := h
    exact ⟨_, hd.box⟩
theorem Dc.below {w w' : World} {B H c : Nat} {m v n : Int} {o : Option (Nat × ByteArray × List Int)} (h : Dc w B H m v n c o) (hb : Below w.heap.size w w') : Dc w' B H m v n c o := by
  rcases o with _ | ⟨t, s, R⟩
  · exact Box.over h hb (Box.inHeap h)
  · obtain ⟨g, k, cap, xs, rv, hd⟩ := h
    refine ⟨g, k, cap, xs, rv, hd.box.over hb hd.box.inHeap, ?_, hd.x0, hd.x1, hd.x2, hd.lane.below hb (Nat.le_refl _), hd.far, hd.hk, hd.hR, hd.eld.world fun ev T h1 _ => h1.below hb (Nat.le_refl _)⟩
    exact hd.own.kept (row := none) ⟨hb.os, hb.tape, hb.output, hb.size, fun k hk _ => hb.block k hk⟩ (.inr (by simp [Value.ownBlock]))
end Go.Proofs.YtgicehhenahfpaaDoor
