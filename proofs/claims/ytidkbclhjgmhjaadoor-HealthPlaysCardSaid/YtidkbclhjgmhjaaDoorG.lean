/- The chapter's policy; some of the chapter's answers. -/
import Derived.Test.YtidkbclhjgmhjaaDoorF
set_option linter.unusedVariables false
set_option linter.unusedSimpArgs false
namespace Go.Proofs.YtidkbclhjgmhjaaDoor
open Go.RowKit

/-- The chapter's table, and the one ahead of it. -/
def tabG (k : Nat) : Int := if k = 2 then 2 else if k = 5 then 3 else if k = 3 then 1 else if k = 16 then 4 else 0
def tabZ (_ : Nat) : Int := 0

theorem alloc_guest (w : World) : (Instr.alloc 25 true (.tuple #[])).run Tryd.prog w = .ok (.pointer (some ⟨w.heap.size, 0, none⟩)) (w.alloc (.cells (guest tabZ 0 0 0) 25)) := by kernel_rfl
theorem set_guest : ((((guest tabZ 0 0 2).setIfInBounds 5 (.int .u8 2)).setIfInBounds 8 (.int .u8 3)).setIfInBounds 6 (.int .u8 1)).setIfInBounds 19 (.int .u8 4) = guest tabG 0 0 2 := by kernel_rfl
theorem one_guest (T : Nat → Int) (a b c : Int) : (guest T a b c).all (·.oneCell') = true := by kernel_rfl

theorem box_guest {w : World} {B : Nat} (b : Box w B 25 (guest tabZ 0 0 2)) :
    Box ((((w.setCell ⟨B, 5, none⟩ (.int .u8 2)).setCell ⟨B, 8, none⟩ (.int .u8 3)).setCell ⟨B, 6, none⟩ (.int .u8 1)).setCell ⟨B, 19, none⟩ (.int .u8 4)) B 25 (guest tabG 0 0 2) := by
  rw [← set_guest]
  exact (((b.put 5 _).put 8 _).put 6 _).put 19 _

theorem box_other {w : World} {B b : Nat} {t : TypeId} {cs : Array Value} (h : Box w b t cs) (hb : b ≠ B) (x y z u : Value) :
    Box ((((w.setCell ⟨B, 5, none⟩ x).setCell ⟨B, 8, none⟩ y).setCell ⟨B, 6, none⟩ z).setCell ⟨B, 19, none⟩ u) b t cs :=
  (((h.putFar (p := ⟨B, 5, none⟩) hb x).putFar (p := ⟨B, 8, none⟩) hb y).putFar (p := ⟨B, 6, none⟩) hb z).putFar (p := ⟨B, 19, none⟩) hb u

set_option maxHeartbeats 400000 in
theorem given_any (w : World) : Calls Tryd.prog 19 #[] w fun e w' => e = .returned (.agg (guest tabG 0 0 2)) ∧ Below w.heap.size w w' := by
  have a0 : Box (w.alloc (.cells (guest tabZ 0 0 0) 25)) w.heap.size 25 (guest tabZ 0 0 0) := Box.made _ _ _
  have a1 := a0.more (.cells (guest tabZ 0 0 0) 25)
  have b1 : Box ((w.alloc (.cells (guest tabZ 0 0 0) 25)).alloc (.cells (guest tabZ 0 0 0) 25)) (w.heap.size + 1) 25 (guest tabZ 0 0 0) := by simpa using Box.made (w.alloc (.cells (guest tabZ 0 0 0) 25)) 25 (guest tabZ 0 0 0)
  have d2 : Below w.heap.size w ((w.alloc (.cells (guest tabZ 0 0 0) 25)).alloc (.cells (guest tabZ 0 0 0) 25)) := ((Below.refl _ _).alloc (Nat.le_refl _) _).alloc (by simp) _
  have hne : w.heap.size ≠ w.heap.size + 1 := by omega
  go_enter Tryd.func19, Tryd.ntmps19
  go_wp2_with (first
    | (refine wpList_alloc_to rfl 25 rfl (guest tabZ 0 0 0) alloc_guest w.heap.size ?_ ?_; (with_reducible rfl))
    | (refine wpList_alloc_to rfl 25 rfl (guest tabZ 0 0 0) alloc_guest (w.heap.size + 1) ?_ ?_; (simp; done))
    | (refine wpList_build_to rfl 25 _ rfl (guest tabZ 0 0 2) (by kernel_rfl) ?_)
    | (refine wpList_store_box rfl 25 (.tmp 1) (.tmp 2) rfl (w.heap.size + 1) (guest tabZ 0 0 2) rfl rfl 25 (guest tabZ 0 0 0) ?_ size_guest rfl (one_guest _ _ _ _) ?_
       exact b1
       intro w3 b2 d3
       have a3 : Box w3 w.heap.size 25 (guest tabZ 0 0 0) := a1.over d3 (by omega)
       have c5 : w3.cell? ⟨w.heap.size + 1, 5, none⟩ = some (.int .u8 0) := b2.read 5
       have c8 : w3.cell? ⟨w.heap.size + 1, 8, none⟩ = some (.int .u8 0) := b2.read 8
       have c6 : w3.cell? ⟨w.heap.size + 1, 6, none⟩ = some (.int .u8 0) := b2.read 6
       have c19 : w3.cell? ⟨w.heap.size + 1, 19, none⟩ = some (.int .u8 0) := b2.read 19
       have f5 := b2.warm 5
       have f8 := b2.warm 8
       have f6 := b2.warm 6
       have f19 := b2.warm 19)
    | (refine wpList_load_row rfl 25 (.tmp 1) rfl (w.heap.size + 1) rfl 25 (guest tabG 0 0 2) (0, 0) _ ?_ Tryd.underlying25 rfl size_guest ?_; exact box_guest b2)
    | (refine wpList_store_box rfl 25 (.tmp 0) (.tmp 11) rfl w.heap.size (guest tabG 0 0 2) rfl rfl 25 (guest tabZ 0 0 0) ?_ size_guest rfl (one_guest _ _ _ _) ?_
       exact box_other a3 hne _ _ _ _
       intro w4 b4 d4))
  exact bodyPost_ret (results_cell_row rfl _ _ w.heap.size 25 (guest tabG 0 0 2) (0, 0) _ rfl b4 Tryd.underlying25 rfl size_guest) rfl
    ⟨rfl, (((((d2.trans (d3.mono (by omega))).setCell (by simp) _).setCell (by simp) _).setCell (by simp) _).setCell (by simp) _).trans d4⟩

section
variable {T : Nat → Int} {m p r : Int} {h : Bool} {B : Nat} {w : World}
theorem raise_to (hb : Box w B 44 (mon T m p r h)) (f : Nat) (F A p' : Int) (hF : F = f) (hf : f < 256) (hA : act T f = A) (hp : pend T f p h = p') :
    Calls Tryd.prog 11 #[.pointer (some ⟨B, 0, none⟩), .int .u8 F] w fun e w' => e = .returned (.int .u8 A) ∧ Box w' B 44 (mon T m p' r h) ∧ Below B w w' := by
  subst hF hA hp
  exact (raise_any hb f hf).mono fun e w' ⟨h1, h2, h3⟩ => ⟨h1, h2, h3.below (Nat.le_refl _) (Nat.le_of_lt hb.inHeap)⟩
theorem take_to (hb : Box w B 44 (mon T m p r h)) (hp : 0 ≤ p) (hp4 : p ≤ 4) (hr : 0 ≤ r) (hr1 : r ≤ m) (hm : m ≤ 255) (A r' : Int) (h' : Bool) (hA : takes m p r = A) (hr' : again m p r = r') (hh : halts m p r h = h') :
    Calls Tryd.prog 9 #[.pointer (some ⟨B, 0, none⟩)] w fun e w' => e = .returned (.int .u8 A) ∧ Box w' B 44 (mon T m 0 r' h') ∧ Below B w w' := by
  subst hA hr' hh
  exact (take_any hb hp hp4 hr hr1 hm).mono fun e w' ⟨h1, h2, h3⟩ => ⟨h1, h2, h3.below (Nat.le_refl _) (Nat.le_of_lt hb.inHeap)⟩
end

/-- The chapter's answers hold. -/
theorem awake_any (w : World) : Calls Tryd.prog 5 #[] w fun e w' => e = .returned (.bool true) ∧ Below w.heap.size w w' := by
  go_enter Tryd.func5, Tryd.ntmps5
  go_wp2_with fail
  refine (given_any _).mono ?_
  rintro e w1 ⟨rfl, d1⟩
  go_wp2_with fail
  refine (new_ok (by decide) _).mono ?_
  rintro e w2 ⟨B, rfl, hB, b2, d2⟩
  go_wp2_with fail
  refine (raise_to b2 2 _ 2 2 rfl (by decide) (by decide) (by decide)).mono ?_
  rintro e w3 ⟨rfl, b3, d3⟩
  go_wp2_with fail
  refine (raise_to b3 5 _ 3 3 rfl (by decide) (by decide) (by decide)).mono ?_
  rintro e w4 ⟨rfl, b4, d4⟩
  go_wp2_with fail
  refine (raise_to b4 3 _ 1 3 rfl (by decide) (by decide) (by decide)).mono ?_
  rintro e w5 ⟨rfl, b5, d5⟩
  go_wp2_with fail
  refine (pending_any B 3 _ (b5.read 0) (b5.read 19)).mono ?_
  rintro e w' ⟨rfl, rfl⟩
  go_wp2_with fail
  refine (take_to b5 (by decide) (by decide) (by decide) (by decide) (by decide) 3 1 false (by decide) (by decide) (by decide)).mono ?_
  rintro e w6 ⟨rfl, b6, d6⟩
  go_wp2_with fail
  refine (take_to b6 (by decide) (by decide) (by decide) (by decide) (by decide) 0 1 false (by decide) (by decide) (by decide)).mono ?_
  rintro e w7 ⟨rfl, b7, d7⟩
  go_wp2_with fail
  refine (restarts_any B 1 _ (b7.read 0) (b7.read 20)).mono ?_
  rintro e w' ⟨rfl, rfl⟩
  go_wp2_with fail
  go_ret
  have hB' : w.heap.size ≤ B := Nat.le_trans d1.size hB
  exact ⟨rfl, ((((((d1.trans (d2.mono d1.size)).trans (d3.mono hB')).trans (d4.mono hB')).trans (d5.mono hB')).trans (d6.mono hB')).trans (d7.mono hB'))⟩
end Go.Proofs.YtidkbclhjgmhjaaDoor
