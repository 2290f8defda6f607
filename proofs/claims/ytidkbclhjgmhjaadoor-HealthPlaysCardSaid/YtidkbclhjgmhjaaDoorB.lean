/- What each call of a monitor does: contracts of package health's calls. -/
import Derived.Test.YtidkbclhjgmhjaaDoorA
set_option linter.unusedVariables false
set_option linter.unusedSimpArgs false
namespace Go.Proofs.YtidkbclhjgmhjaaDoor
open Go.RowKit

set_option maxHeartbeats 400000 in
theorem isMade_any (B : Nat) (w : World) (h0 : w.cell? ⟨B, 0, none⟩ = some (.bool true)) :
    Calls Tryd.prog 21 #[.pointer (some ⟨B, 0, none⟩)] w fun e w' => e = .returned (.bool true) ∧ w = w' := by
  go_enter Tryd.func21, Tryd.ntmps21
  go_wp2
  go_ret
  exact ⟨rfl, rfl⟩

set_option maxHeartbeats 400000 in
theorem restarts_any (B : Nat) (r : Int) (w : World) (h0 : w.cell? ⟨B, 0, none⟩ = some (.bool true)) (h1 : w.cell? ⟨B, 20, none⟩ = some (.int .u8 r)) :
    Calls Tryd.prog 16 #[.pointer (some ⟨B, 0, none⟩)] w fun e w' => e = .returned (.int .u8 r) ∧ w = w' := by
  go_enter Tryd.func16, Tryd.ntmps16
  go_wp2_with (go_at_call 21; refine (isMade_any B _ h0).mono ?_; rintro e w' ⟨rfl, rfl⟩)
  go_ret
  exact ⟨rfl, rfl⟩

set_option maxHeartbeats 400000 in
theorem pending_any (B : Nat) (r : Int) (w : World) (h0 : w.cell? ⟨B, 0, none⟩ = some (.bool true)) (h1 : w.cell? ⟨B, 19, none⟩ = some (.int .u8 r)) :
    Calls Tryd.prog 13 #[.pointer (some ⟨B, 0, none⟩)] w fun e w' => e = .returned (.int .u8 r) ∧ w = w' := by
  go_enter Tryd.func13, Tryd.ntmps13
  go_wp2_with (go_at_call 21; refine (isMade_any B _ h0).mono ?_; rintro e w' ⟨rfl, rfl⟩)
  go_ret
  exact ⟨rfl, rfl⟩

set_option maxHeartbeats 400000 in
theorem halted_any (B : Nat) (h : Bool) (w : World) (h0 : w.cell? ⟨B, 0, none⟩ = some (.bool true)) (h1 : w.cell? ⟨B, 21, none⟩ = some (.bool h)) :
    Calls Tryd.prog 15 #[.pointer (some ⟨B, 0, none⟩)] w fun e w' => e = .returned (.bool h) ∧ w = w' := by
  go_enter Tryd.func15, Tryd.ntmps15
  go_wp2_with (go_at_call 21; refine (isMade_any B _ h0).mono ?_; rintro e w' ⟨rfl, rfl⟩)
  go_ret
  exact ⟨rfl, rfl⟩

end Go.Proofs.YtidkbclhjgmhjaaDoor
