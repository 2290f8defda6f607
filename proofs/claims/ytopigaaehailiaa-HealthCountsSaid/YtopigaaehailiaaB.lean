/- What each call of a monitor does: contracts of package health's calls. -/
import Derived.Test.YtopigaaehailiaaA
namespace Go.Proofs.Ytopigaaehailiaa
open Go.RowKit

set_option maxHeartbeats 400000 in
theorem isMade_any (B : Nat) (w : World) (h0 : w.cell? ⟨B, 0, none⟩ = some (.bool true)) :
    Calls Try.prog 13 #[.pointer (some ⟨B, 0, none⟩)] w fun e w' => e = .returned (.bool true) ∧ w = w' := by
  go_enter Try.func13, Try.ntmps13
  go_wp2
  go_ret
  exact ⟨rfl, rfl⟩

set_option maxHeartbeats 400000 in
theorem restarts_any (B : Nat) (r : Int) (w : World) (h0 : w.cell? ⟨B, 0, none⟩ = some (.bool true)) (h1 : w.cell? ⟨B, 20, none⟩ = some (.int .u8 r)) :
    Calls Try.prog 8 #[.pointer (some ⟨B, 0, none⟩)] w fun e w' => e = .returned (.int .u8 r) ∧ w = w' := by
  go_enter Try.func8, Try.ntmps8
  go_wp2_with (go_at_call 13; refine (isMade_any B _ h0).mono ?_; rintro e w' ⟨rfl, rfl⟩)
  go_ret
  exact ⟨rfl, rfl⟩

set_option maxHeartbeats 400000 in
theorem pending_any (B : Nat) (r : Int) (w : World) (h0 : w.cell? ⟨B, 0, none⟩ = some (.bool true)) (h1 : w.cell? ⟨B, 19, none⟩ = some (.int .u8 r)) :
    Calls Try.prog 10 #[.pointer (some ⟨B, 0, none⟩)] w fun e w' => e = .returned (.int .u8 r) ∧ w = w' := by
  go_enter Try.func10, Try.ntmps10
  go_wp2_with (go_at_call 13; refine (isMade_any B _ h0).mono ?_; rintro e w' ⟨rfl, rfl⟩)
  go_ret
  exact ⟨rfl, rfl⟩

set_option maxHeartbeats 400000 in
theorem halted_any (B : Nat) (h : Bool) (w : World) (h0 : w.cell? ⟨B, 0, none⟩ = some (.bool true)) (h1 : w.cell? ⟨B, 21, none⟩ = some (.bool h)) :
    Calls Try.prog 9 #[.pointer (some ⟨B, 0, none⟩)] w fun e w' => e = .returned (.bool h) ∧ w = w' := by
  go_enter Try.func9, Try.ntmps9
  go_wp2_with (go_at_call 13; refine (isMade_any B _ h0).mono ?_; rintro e w' ⟨rfl, rfl⟩)
  go_ret
  exact ⟨rfl, rfl⟩

end Go.Proofs.Ytopigaaehailiaa
