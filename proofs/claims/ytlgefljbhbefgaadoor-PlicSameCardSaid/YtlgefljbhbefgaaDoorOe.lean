/- FormatUint at base 16 of a number below 16, and of one below 256. -/
import Derived.Test.YtlgefljbhbefgaaDoorOd
set_option linter.unusedVariables false
set_option linter.unusedSimpArgs false
namespace Go.Proofs.YtlgefljbhbefgaaDoor
open Go.RowKit
attribute [local go_sem] Oper.semAt_some
/-- TrailingZeros64 of 16, as the library answers. -/
def Tz16 (w : World) : Prop := ∀ W, Below w.heap.size w W → Calls Tryd.prog 63 #[.int .u64 16] W fun e w' => e = .returned (.int .i64 4) ∧ w' = W
theorem tz_any {w : World} (h : Tz16 w) : Calls Tryd.prog 61 #[.int .u64 16] w fun e w' => e = .returned (.int .i64 4) ∧ w' = w := by
  have H := Lib.hid (h w (Below.refl _ _))
  go_enter Tryd.func61, Tryd.ntmps61
  go_wp2_with (go_at_call 63; refine H.out.mono ?_; rintro e w' ⟨rfl, rfl⟩)
  go_ret
  exact ⟨rfl, rfl⟩
end Go.Proofs.YtlgefljbhbefgaaDoor
