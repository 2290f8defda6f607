/- What Raise and Take do to a monitor. -/
import Derived.Test.YtidkbclhjgmhjaaDoorB
set_option linter.unusedVariables false
set_option linter.unusedSimpArgs false
namespace Go.Proofs.YtidkbclhjgmhjaaDoor
open Go.RowKit

/-- The cells of a monitor: its policy's table T, how many restarts there may be, what pends, how many there were, whether it is halted. -/
def mon (T : Nat → Int) (m p r : Int) (h : Bool) : Array Value :=
  #[.bool true, .int .u8 (T 0), .int .u8 (T 1), .int .u8 (T 2), .int .u8 (T 3), .int .u8 (T 4), .int .u8 (T 5), .int .u8 (T 6), .int .u8 (T 7), .int .u8 (T 8), .int .u8 (T 9), .int .u8 (T 10), .int .u8 (T 11), .int .u8 (T 12),
    .int .u8 (T 13), .int .u8 (T 14), .int .u8 (T 15), .int .u8 (T 16), .int .u8 m, .int .u8 p, .int .u8 r, .bool h]

theorem mon_at (T : Nat → Int) (m p r : Int) (h : Bool) (k : Nat) (hk : k < 17) : (mon T m p r h)[1 + k]? = some (.int .u8 (T k)) := by
  match k, hk with
  | 0, _ => rfl
  | 1, _ => rfl
  | 2, _ => rfl
  | 3, _ => rfl
  | 4, _ => rfl
  | 5, _ => rfl
  | 6, _ => rfl
  | 7, _ => rfl
  | 8, _ => rfl
  | 9, _ => rfl
  | 10, _ => rfl
  | 11, _ => rfl
  | 12, _ => rfl
  | 13, _ => rfl
  | 14, _ => rfl
  | 15, _ => rfl
  | 16, _ => rfl
  | k + 17, h => exact absurd h (by omega)

section
variable {T : Nat → Int} {m p r : Int} {h : Bool} {B : Nat} {w : World}

/-- What a fault's action is. -/
def act (T : Nat → Int) (f : Nat) : Int := if f < 17 then T f else 0
/-- What pends behind a fault. -/
def pend (T : Nat → Int) (f : Nat) (p : Int) (h : Bool) : Int := if f < 17 ∧ 1 < T f ∧ h = false then max p (T f) else p

set_option maxHeartbeats 400000 in
theorem raise_far (hb : Box w B 44 (mon T m p r h)) (f : Nat) (hf : 17 ≤ f) (_hf : f < 256) :
    Calls Tryd.prog 11 #[.pointer (some ⟨B, 0, none⟩), .int .u8 f] w fun e w' => e = .returned (.int .u8 0) ∧ w = w' := by
  have h0 : w.cell? ⟨B, 0, none⟩ = some (.bool true) := hb.read 0
  clear hb
  go_enter Tryd.func11, Tryd.ntmps11
  go_wp2_with (go_at_call 21; refine (isMade_any B _ h0).mono ?_; rintro e w' ⟨rfl, rfl⟩)
  go_ret
  exact ⟨rfl, rfl⟩

set_option maxHeartbeats 400000 in
theorem raise_small (hb : Box w B 44 (mon T m p r h)) (f : Nat) (hf : f < 17) (ht : T f ≤ 1) :
    Calls Tryd.prog 11 #[.pointer (some ⟨B, 0, none⟩), .int .u8 f] w fun e w' => e = .returned (.int .u8 (T f)) ∧ w = w' := by
  have h0 : w.cell? ⟨B, 0, none⟩ = some (.bool true) := hb.read 0
  have h1 : w.cell? ⟨B, 1 + f, none⟩ = some (.int .u8 (T f)) := (hb.read (1 + f)).trans (mon_at T m p r h f hf)
  clear hb
  go_enter Tryd.func11, Tryd.ntmps11
  go_wp2_with (go_at_call 21; refine (isMade_any B _ h0).mono ?_; rintro e w' ⟨rfl, rfl⟩)
  go_ret
  exact ⟨rfl, rfl⟩
set_option maxHeartbeats 400000 in
theorem raise_halted (hb : Box w B 44 (mon T m p r true)) (f : Nat) (hf : f < 17) (ht : 1 < T f) :
    Calls Tryd.prog 11 #[.pointer (some ⟨B, 0, none⟩), .int .u8 f] w fun e w' => e = .returned (.int .u8 (T f)) ∧ w = w' := by
  have h0 : w.cell? ⟨B, 0, none⟩ = some (.bool true) := hb.read 0
  have h1 : w.cell? ⟨B, 1 + f, none⟩ = some (.int .u8 (T f)) := (hb.read (1 + f)).trans (mon_at T m p r true f hf)
  have h2 : w.cell? ⟨B, 21, none⟩ = some (.bool true) := hb.read 21
  clear hb
  go_enter Tryd.func11, Tryd.ntmps11
  go_wp2_with (go_at_call 21; refine (isMade_any B _ h0).mono ?_; rintro e w' ⟨rfl, rfl⟩)
  go_ret
  exact ⟨rfl, rfl⟩

set_option maxHeartbeats 400000 in
theorem raise_big (hb : Box w B 44 (mon T m p r false)) (f : Nat) (hf : f < 17) (ht : 1 < T f) :
    Calls Tryd.prog 11 #[.pointer (some ⟨B, 0, none⟩), .int .u8 f] w fun e w' => e = .returned (.int .u8 (T f)) ∧ Box w' B 44 (mon T m (max p (T f)) r false) ∧ Only B w w' := by
  have h0 : w.cell? ⟨B, 0, none⟩ = some (.bool true) := hb.read 0
  have h1 : w.cell? ⟨B, 1 + f, none⟩ = some (.int .u8 (T f)) := (hb.read (1 + f)).trans (mon_at T m p r false f hf)
  have h2 : w.cell? ⟨B, 21, none⟩ = some (.bool false) := hb.read 21
  have h3 : w.cell? ⟨B, 19, none⟩ = some (.int .u8 p) := hb.read 19
  have h4 : w.frozen? ⟨B, 19, none⟩ = false := hb.warm 19
  have HP : Hid (∀ x, Box (w.setCell ⟨B, 19, none⟩ (.int .u8 x)) B 44 (mon T m x r false)) := fun x => hb.put 19 (.int .u8 x)
  clear hb
  go_enter Tryd.func11, Tryd.ntmps11
  go_wp2_with (go_at_call 21; refine (isMade_any B _ h0).mono ?_; rintro e w' ⟨rfl, rfl⟩)
  · go_ret
    have e : max p (T f) = T f := by omega
    rw [e]
    exact ⟨rfl, HP.out _, (Only.refl B w).put (p := ⟨B, 19, none⟩) (.inl rfl) _⟩
  · go_ret
    have e : max p (T f) = p := by omega
    rw [e]
    exact ⟨rfl, HP.out _, (Only.refl B w).put (p := ⟨B, 19, none⟩) (.inl rfl) _⟩

/-- Raise, whatever is raised. -/
theorem raise_any (hb : Box w B 44 (mon T m p r h)) (f : Nat) (hf : f < 256) :
    Calls Tryd.prog 11 #[.pointer (some ⟨B, 0, none⟩), .int .u8 f] w fun e w' => e = .returned (.int .u8 (act T f)) ∧ Box w' B 44 (mon T m (pend T f p h) r h) ∧ Only B w w' := by
  unfold act pend
  by_cases h1 : f < 17
  · rw [if_pos h1]
    by_cases h2 : 1 < T f
    · cases h
      · rw [if_pos ⟨h1, h2, rfl⟩]
        exact raise_big hb f h1 h2
      · rw [if_neg (by simp)]
        exact (raise_halted hb f h1 h2).mono fun e w' ⟨he, hw⟩ => ⟨he, hw ▸ hb, hw ▸ Only.refl _ _⟩
    · rw [if_neg (by simp [h2])]
      exact (raise_small hb f h1 (by omega)).mono fun e w' ⟨he, hw⟩ => ⟨he, hw ▸ hb, hw ▸ Only.refl _ _⟩
  · rw [if_neg h1, if_neg (by simp [h1])]
    exact (raise_far hb f (by omega) hf).mono fun e w' ⟨he, hw⟩ => ⟨he, hw ▸ hb, hw ▸ Only.refl _ _⟩
end
end Go.Proofs.YtidkbclhjgmhjaaDoor
