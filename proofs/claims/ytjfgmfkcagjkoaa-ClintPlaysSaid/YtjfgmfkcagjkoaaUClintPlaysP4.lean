/- ClintPlays: a part of its places. -/
import Derived.Test.YtjfgmfkcagjkoaaUClintPlays
set_option linter.unusedVariables false
set_option linter.unusedSimpArgs false
namespace Go.Proofs.Ytjfgmfkcagjkoaa.Sx
open Go
set_option maxRecDepth 100000
theorem place0_4_yes : placeYes Try.prog noGlob lawEv 300 lawBody lawFn 0 100000 places0 lawExc0 place0_4 = true := by kernel_rfl
theorem place0_10_yes : placeYes Try.prog noGlob lawEv 300 lawBody lawFn 0 100000 places0 lawExc0 place0_10 = true := by kernel_rfl
theorem place0_16_yes : placeYes Try.prog noGlob lawEv 300 lawBody lawFn 0 100000 places0 lawExc0 place0_16 = true := by kernel_rfl
theorem place0_22_yes : placeYes Try.prog noGlob lawEv 300 lawBody lawFn 0 100000 places0 lawExc0 place0_22 = true := by kernel_rfl
theorem place0_28_yes : placeYes Try.prog noGlob lawEv 300 lawBody lawFn 0 100000 places0 lawExc0 place0_28 = true := by kernel_rfl
theorem place0_34_yes : placeYes Try.prog noGlob lawEv 300 lawBody lawFn 0 100000 places0 lawExc0 place0_34 = true := by kernel_rfl
theorem place0_40_yes : placeYes Try.prog noGlob lawEv 300 lawBody lawFn 0 100000 places0 lawExc0 place0_40 = true := by kernel_rfl
theorem place0_46_yes : placeYes Try.prog noGlob lawEv 300 lawBody lawFn 0 100000 places0 lawExc0 place0_46 = true := by kernel_rfl
theorem place0_52_yes : placeYes Try.prog noGlob lawEv 300 lawBody lawFn 0 100000 places0 lawExc0 place0_52 = true := by kernel_rfl
end Go.Proofs.Ytjfgmfkcagjkoaa.Sx
