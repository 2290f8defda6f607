/- HealthNothing: what Text tells, given what the library's Itoa answers. -/
import Derived.Test.YtidkbclhjgmhjaaDoorG
import Derived.Deep.RegionWith
import Derived.Lib.Hide
set_option linter.unusedVariables false
set_option linter.unusedSimpArgs false
namespace Go.Proofs.YtidkbclhjgmhjaaDoor
open Go.RowKit

/-- What the library's Itoa answers in each world behind W. -/
structure Nums (it : Int → ByteArray) (W : World) : Prop where
  size : ∀ n, 0 ≤ n → n ≤ 255 → (it n).size ≤ 20
  call : ∀ (n : Int) (w : World), 0 ≤ n → n ≤ 255 → Below W.heap.size W w → Calls Tryd.prog 22 #[.int .i64 n] w fun e w' => e = .returned (.string (it n)) ∧ Below w.heap.size w w'
def txt (it : Int → ByteArray) (p r : Int) (h : Bool) : ByteArray :=
  bif h then it p ++ ⟨#[32]⟩ ++ it r ++ ⟨#[32, 104, 97, 108, 116, 101, 100]⟩ else it p ++ ⟨#[32]⟩ ++ it r
section
variable {T : Nat → Int} {m p r : Int} {h : Bool} {B : Nat} {w W : World} {it : Int → ByteArray}
set_option maxHeartbeats 3200000 in
set_option maxRecDepth 20000 in
theorem text_any (hN : Nums it W) (hb : Box w B 44 (mon T m p r h)) (hp : 0 ≤ p) (hp4 : p ≤ 4) (hr : 0 ≤ r) (hr1 : r ≤ 255) (hW : Below W.heap.size W w) :
    Calls Tryd.prog 17 #[.pointer (some ⟨B, 0, none⟩)] w fun e w' => e = .returned (.string (txt it p r h)) ∧ Below w.heap.size w w' := by
  have c19 : w.cell? ⟨B, 19, none⟩ = some (.int .u8 p) := hb.read 19
  have c20 : w.cell? ⟨B, 20, none⟩ = some (.int .u8 r) := hb.read 20
  have c21 : w.cell? ⟨B, 21, none⟩ = some (.bool h) := hb.read 21
  have z1 := hN.size p hp (by omega)
  have z2 := hN.size r hr hr1
  have zs : (⟨#[32]⟩ : ByteArray).size = 1 := rfl
  have zh : (⟨#[32, 104, 97, 108, 116, 101, 100]⟩ : ByteArray).size = 7 := rfl
  have y1 : ¬ 9223372036854775807 < (it p).size + 1 := by omega
  have y2 : ¬ 9223372036854775807 < (it p).size + 1 + (it r).size := by omega
  have y3 : ¬ 9223372036854775807 < (it p).size + 1 + (it r).size + 7 := by omega
  have hin := hb.inHeap
  have x1 : IntKind.i64.wrap p = p := IntWalk.i64_in _ (by omega)
  have x2 : IntKind.i64.wrap r = r := IntWalk.i64_in _ (by omega)
  have HB := Lib.hid hb
  have HW := Lib.hid hW
  have HN := Lib.hid hN
  clear hb hW hN zs zh
  go_enter Tryd.func17, Tryd.ntmps17
  go_wp2_with (go_at_call 21; refine (isMade_any B _ (HB.out.read 0)).mono ?_; rintro e w' ⟨rfl, rfl⟩)
  go_region_with (first
    | (go_at_call 22; have he20 := e20; clear he20; refine (HN.out.call _ _ (by omega) (by omega) HW2.out).mono ?_; rintro e w3 ⟨rfl, bel3⟩; have hb3 := HB2.out.over bel3 (by exact HB2.out.inHeap); have e21 : w3.cell? ⟨B, 21, none⟩ = some (.bool h) := hb3.read 21; have HE3 := Lib.hid bel3; clear hb3 bel3)
    | (go_at_call 22; refine (HN.out.call _ _ (by omega) (by omega) (below_drawn HW.out 1)).mono ?_; rintro e w2 ⟨rfl, bel2⟩; have hb2 := (HB.out.drawn 1).over bel2 (by exact hin); have hw2 := (below_drawn HW.out 1).trans (bel2.mono HW.out.size); have e20 : w2.cell? ⟨B, 20, none⟩ = some (.int .u8 r) := hb2.read 20; have HB2 := Lib.hid hb2; have HW2 := Lib.hid hw2; have HE2 := Lib.hid bel2; clear hb2 hw2 bel2))
  all_goals
    have be : Below w.heap.size w w3 := ((below_drawn (Below.refl _ _) 1).trans HE2.out).trans (HE3.out.mono HE2.out.size)
    have HE := Lib.hid be
    clear be
    cases h
    · go_wp2
      go_ret
      exact ⟨rfl, HE.out⟩
    · go_wp2
      go_ret
      exact ⟨rfl, HE.out⟩
end
end Go.Proofs.YtidkbclhjgmhjaaDoor
