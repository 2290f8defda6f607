/- Same of the document. -/
import Derived.Test.YtgicehhenahfpaaY
set_option linter.unusedVariables false
set_option linter.unusedSimpArgs false
namespace Go.Proofs.Ytgicehhenahfpaa
open Go.RowKit
attribute [local go_sem] Oper.semAt_some
/-- What the document's channel tells. -/
def tellL (n : Nat) : Option (Nat × ByteArray × List Int) → List UInt8
  | none => [45]
  | some (t, s, R) => textL t s.data.toList (unread R) n
/-- A message that may be. -/
def okO : Option (Nat × ByteArray × List Int) → Prop
  | none => True
  | some (t, s, _) => t < 18446744073709551616 ∧ s.size ≤ 1048576
theorem dtext_any {w : World} {B H c : Nat} {m v : Int} {n : Nat} {o : Option (Nat × ByteArray × List Int)} (h : Dc w B H m v n c o) (hc : c ≤ 1048576) (hn : n ≤ 16) (ho : okO o) :
    Calls Try.prog 22 #[.pointer (some ⟨B, 0, none⟩)] w fun e w' => e = .returned (.string (st (tellL n o))) ∧ Below w.heap.size w w' := by
  rcases o with _ | ⟨t, s, R⟩
  · exact dtext_none h
  · obtain ⟨g, k, cap, xs, rv, hd⟩ := h
    exact dtext_ok hd hc hn ho.2 ho.1
theorem Dc.cells {w : World} {B H c : Nat} {m v n : Int} {o : Option (Nat × ByteArray × List Int)} (h : Dc w B H m v n c o) : ∃ sl, Box w B 36 (dch m v n sl) := by
  rcases o with _ | ⟨t, s, R⟩
  · exact ⟨_, h⟩
  · obtain ⟨g, k, cap, xs, rv, hd⟩ := h
    exact ⟨_, hd.box⟩
theorem Dc.below {w w' : World} {B H c : Nat} {m v n : Int} {o : Option (Nat × ByteArray × List Int)} (h : Dc w B H m v n c o) (hb : Below w.heap.size w w') : Dc w' B H m v n c o := by
  rcases o with _ | ⟨t, s, R⟩
  · exact Box.over h hb (Box.inHeap h)
  · obtain ⟨g, k, cap, xs, rv, hd⟩ := h
    refine ⟨g, k, cap, xs, rv, hd.box.over hb hd.box.inHeap, ?_, hd.x0, hd.x1, hd.x2, hd.lane.below hb (Nat.le_refl _), hd.far, hd.hk, hd.hR⟩
    exact hd.own.kept (row := none) ⟨hb.os, hb.tape, hb.output, hb.size, fun k hk _ => hb.block k hk⟩ (.inr (by simp [Value.ownBlock]))
section
variable {m v m' v' : Int} {n n' : Nat} {B C H H' c : Nat} {w : World} {o o' : Option (Nat × ByteArray × List Int)}
set_option maxHeartbeats 1000000 in
/-- Channels of different shapes. (Where the shapes are the same: dsame_eq, to do.) -/
theorem dsame_no (h : Dc w B H m v n c o) (h' : Dc w C H' m' v' n' c o') (hno : ¬ (m = m' ∧ v = v' ∧ n = n')) :
    Calls Try.prog 12 #[.pointer (some ⟨B, 0, none⟩), .pointer (some ⟨C, 0, none⟩)] w fun e w' => e = .returned (.bool false) ∧ Below w.heap.size w w' := by
  obtain ⟨sl, hb⟩ := h.cells
  obtain ⟨sl', hb'⟩ := h'.cells
  have a0 : w.drew.cell? ⟨B, 0, none⟩ = some (.int .i64 m) := hb.drawn1.read 0
  have a1 : w.drew.cell? ⟨B, 1, none⟩ = some (.int .u32 v) := hb.drawn1.read 1
  have a2 : w.drew.cell? ⟨B, 2, none⟩ = some (.int .i64 n) := hb.drawn1.read 2
  have b0 : w.drew.cell? ⟨C, 0, none⟩ = some (.int .i64 m') := hb'.drawn1.read 0
  have b1 : w.drew.cell? ⟨C, 1, none⟩ = some (.int .u32 v') := hb'.drawn1.read 1
  have b2 : w.drew.cell? ⟨C, 2, none⟩ = some (.int .i64 n') := hb'.drawn1.read 2
  clear h h' hb hb'
  by_cases hm : m = m'
  · have e1 : (m == m') = true := by simp [hm]
    by_cases hv : v = v'
    · have e2 : (v == v') = true := by simp [hv]
      have hk : n ≠ n' := fun e => hno ⟨hm, hv, e⟩
      have e3 : ((n : Int) == (n' : Int)) = false := beq_eq_false_iff_ne.2 (by omega)
      clear hm hv hk hno
      go_enter Try.func12, Try.ntmps12
      go_wp2
      go_region
      go_wp2
      go_ret
      exact ⟨rfl, below_drawn (Below.refl _ _) 1⟩
    · have e2 : (v == v') = false := beq_eq_false_iff_ne.2 hv
      clear hm hv hno
      go_enter Try.func12, Try.ntmps12
      go_wp2
      go_region
      go_wp2
      go_ret
      exact ⟨rfl, below_drawn (Below.refl _ _) 1⟩
  · have e1 : (m == m') = false := beq_eq_false_iff_ne.2 hm
    clear hm hno
    go_enter Try.func12, Try.ntmps12
    go_wp2
    go_region
    go_wp2
    go_ret
    exact ⟨rfl, below_drawn (Below.refl _ _) 1⟩
end
end Go.Proofs.Ytgicehhenahfpaa
