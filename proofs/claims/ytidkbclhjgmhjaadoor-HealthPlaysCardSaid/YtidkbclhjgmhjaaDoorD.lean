/- What Take does to a monitor. -/
import Derived.Test.YtidkbclhjgmhjaaDoorC
import Derived.Deep.QuietTactic
import Derived.BigQuiet
import Derived.Lib.Hide
set_option linter.unusedVariables false
set_option linter.unusedSimpArgs false
namespace Go.Proofs.YtidkbclhjgmhjaaDoor
open Go.RowKit
section
variable {T : Nat → Int} {m p r : Int} {h : Bool} {B : Nat} {w : World}

set_option maxHeartbeats 400000 in
theorem take_none (hb : Box w B 44 (mon T m 0 r h)) :
    Calls Tryd.prog 9 #[.pointer (some ⟨B, 0, none⟩)] w fun e w' => e = .returned (.int .u8 0) ∧ w = w' := by
  have h0 : w.cell? ⟨B, 0, none⟩ = some (.bool true) := hb.read 0
  have h1 : w.cell? ⟨B, 19, none⟩ = some (.int .u8 0) := hb.read 19
  clear hb
  go_enter Tryd.func9, Tryd.ntmps9
  go_wp2_with (go_at_call 21; refine (isMade_any B _ h0).mono ?_; rintro e w' ⟨rfl, rfl⟩)
  go_ret
  exact ⟨rfl, rfl⟩

set_option maxHeartbeats 400000 in
theorem take_halt (hb : Box w B 44 (mon T m 4 r h)) :
    Calls Tryd.prog 9 #[.pointer (some ⟨B, 0, none⟩)] w fun e w' => e = .returned (.int .u8 4) ∧ Box w' B 44 (mon T m 0 r true) ∧ Only B w w' := by
  have h0 : w.cell? ⟨B, 0, none⟩ = some (.bool true) := hb.read 0
  have h1 : w.cell? ⟨B, 19, none⟩ = some (.int .u8 4) := hb.read 19
  have h2 : w.frozen? ⟨B, 19, none⟩ = false := hb.warm 19
  have h3 : w.frozen? ⟨B, 21, none⟩ = false := hb.warm 21
  have h5 : w.cell? ⟨B, 21, none⟩ = some (.bool h) := hb.read 21
  have HP : Hid (∀ n, Box (((w.setCell ⟨B, 19, none⟩ (.int .u8 0)).setCell ⟨B, 21, none⟩ (.bool true)).drewN n) B 44 (mon T m 0 r true) ∧ Only B w (((w.setCell ⟨B, 19, none⟩ (.int .u8 0)).setCell ⟨B, 21, none⟩ (.bool true)).drewN n)) :=
    fun _ => ⟨(hb.put 19 (.int .u8 0)).put 21 (.bool true), (((Only.refl B w).put (p := ⟨B, 19, none⟩) (.inl rfl) _).put (p := ⟨B, 21, none⟩) (.inl rfl) _).drawn _⟩
  clear hb
  go_enter Tryd.func9, Tryd.ntmps9
  go_wp2_with (go_at_call 21; refine (isMade_any B _ h0).mono ?_; rintro e w' ⟨rfl, rfl⟩)
  go_quiet (fail)
  go_wp2
  go_ret
  exact ⟨rfl, HP.out _⟩

set_option maxHeartbeats 400000 in
theorem take_full (hb : Box w B 44 (mon T m p m h)) (hp : 1 ≤ p) (hp4 : p ≤ 3) :
    Calls Tryd.prog 9 #[.pointer (some ⟨B, 0, none⟩)] w fun e w' => e = .returned (.int .u8 4) ∧ Box w' B 44 (mon T m 0 m true) ∧ Only B w w' := by
  have h0 : w.cell? ⟨B, 0, none⟩ = some (.bool true) := hb.read 0
  have h1 : w.cell? ⟨B, 19, none⟩ = some (.int .u8 p) := hb.read 19
  have h2 : w.frozen? ⟨B, 19, none⟩ = false := hb.warm 19
  have h3 : w.frozen? ⟨B, 21, none⟩ = false := hb.warm 21
  have h5 : w.cell? ⟨B, 21, none⟩ = some (.bool h) := hb.read 21
  have h6 : w.cell? ⟨B, 18, none⟩ = some (.int .u8 m) := hb.read 18
  have h7 : w.cell? ⟨B, 20, none⟩ = some (.int .u8 m) := hb.read 20
  have k0 : (p == 0) = false := by simp; omega
  have k4 : (p == 4) = false := by simp; omega
  have HP : Hid (∀ n, Box (((w.setCell ⟨B, 19, none⟩ (.int .u8 0)).setCell ⟨B, 21, none⟩ (.bool true)).drewN n) B 44 (mon T m 0 m true) ∧ Only B w (((w.setCell ⟨B, 19, none⟩ (.int .u8 0)).setCell ⟨B, 21, none⟩ (.bool true)).drewN n)) :=
    fun _ => ⟨(hb.put 19 (.int .u8 0)).put 21 (.bool true), (((Only.refl B w).put (p := ⟨B, 19, none⟩) (.inl rfl) _).put (p := ⟨B, 21, none⟩) (.inl rfl) _).drawn _⟩
  clear hb
  go_enter Tryd.func9, Tryd.ntmps9
  go_wp2_with (go_at_call 21; refine (isMade_any B _ h0).mono ?_; rintro e w' ⟨rfl, rfl⟩)
  go_quiet (fail)
  go_wp2
  go_ret
  exact ⟨rfl, HP.out _⟩

set_option maxHeartbeats 400000 in
theorem take_go (hb : Box w B 44 (mon T m p r h)) (hp : 1 ≤ p) (hp4 : p ≤ 3) (hr : 0 ≤ r) (hr1 : r < m) (hm : m ≤ 255) :
    Calls Tryd.prog 9 #[.pointer (some ⟨B, 0, none⟩)] w fun e w' => e = .returned (.int .u8 p) ∧ Box w' B 44 (mon T m 0 (r + 1) h) ∧ Only B w w' := by
  have h0 : w.cell? ⟨B, 0, none⟩ = some (.bool true) := hb.read 0
  have h1 : w.cell? ⟨B, 19, none⟩ = some (.int .u8 p) := hb.read 19
  have h2 : w.frozen? ⟨B, 19, none⟩ = false := hb.warm 19
  have h3 : w.frozen? ⟨B, 20, none⟩ = false := hb.warm 20
  have h6 : w.cell? ⟨B, 18, none⟩ = some (.int .u8 m) := hb.read 18
  have h7 : w.cell? ⟨B, 20, none⟩ = some (.int .u8 r) := hb.read 20
  have k0 : (p == 0) = false := by simp; omega
  have k4 : (p == 4) = false := by simp; omega
  have k5 : (r == m) = false := by simp; omega
  have HP : Hid (∀ n, Box (((w.setCell ⟨B, 19, none⟩ (.int .u8 0)).setCell ⟨B, 20, none⟩ (.int .u8 (r + 1))).drewN n) B 44 (mon T m 0 (r + 1) h) ∧ Only B w (((w.setCell ⟨B, 19, none⟩ (.int .u8 0)).setCell ⟨B, 20, none⟩ (.int .u8 (r + 1))).drewN n)) :=
    fun _ => ⟨(hb.put 19 (.int .u8 0)).put 20 (.int .u8 (r + 1)), (((Only.refl B w).put (p := ⟨B, 19, none⟩) (.inl rfl) _).put (p := ⟨B, 20, none⟩) (.inl rfl) _).drawn _⟩
  clear hb
  go_enter Tryd.func9, Tryd.ntmps9
  go_wp2_with (go_at_call 21; refine (isMade_any B _ h0).mono ?_; rintro e w' ⟨rfl, rfl⟩)
  go_quiet (fail)
  go_wp2
  go_ret
  exact ⟨rfl, HP.out _⟩

/-- What Take answers; what becomes of the restarts; whether it halts. -/
def takes (m p r : Int) : Int := if p = 0 then 0 else if p = 4 ∨ r = m then 4 else p
def again (m p r : Int) : Int := if p = 0 ∨ p = 4 ∨ r = m then r else r + 1
def halts (m p r : Int) (h : Bool) : Bool := if p ≠ 0 ∧ (p = 4 ∨ r = m) then true else h

theorem take_any (hb : Box w B 44 (mon T m p r h)) (hp : 0 ≤ p) (hp4 : p ≤ 4) (hr : 0 ≤ r) (hr1 : r ≤ m) (hm : m ≤ 255) :
    Calls Tryd.prog 9 #[.pointer (some ⟨B, 0, none⟩)] w fun e w' => e = .returned (.int .u8 (takes m p r)) ∧ Box w' B 44 (mon T m 0 (again m p r) (halts m p r h)) ∧ Only B w w' := by
  unfold takes again halts
  by_cases k0 : p = 0
  · subst k0
    simp only [ne_eq, not_true_eq_false, false_and, true_or, if_true, if_false]
    exact (take_none hb).mono fun e w' ⟨he, hw⟩ => ⟨he, hw ▸ hb, hw ▸ Only.refl _ _⟩
  by_cases k4 : p = 4
  · subst k4
    simpa using take_halt hb
  by_cases k5 : r = m
  · subst k5
    simpa [k0] using take_full hb (by omega) (by omega)
  · simpa [k0, k4, k5] using take_go hb (by omega) (by omega) hr (by omega) hm
end
end Go.Proofs.YtidkbclhjgmhjaaDoor
