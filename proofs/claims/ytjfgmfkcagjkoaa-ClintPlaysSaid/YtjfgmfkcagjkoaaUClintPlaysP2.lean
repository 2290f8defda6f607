/- ClintPlays: a part of its places. -/
import Derived.Test.YtjfgmfkcagjkoaaUClintPlays
set_option linter.unusedVariables false
set_option linter.unusedSimpArgs false
namespace Go.Proofs.Ytjfgmfkcagjkoaa.Sx
open Go
set_option maxRecDepth 100000
theorem place0_2_yes : placeYes Try.prog noGlob lawEv 300 lawBody lawFn 0 100000 places0 lawExc0 place0_2 = true := by kernel_rfl
theorem place0_8_yes : placeYes Try.prog noGlob lawEv 300 lawBody lawFn 0 100000 places0 lawExc0 place0_8 = true := by kernel_rfl
theorem place0_14_yes : placeYes Try.prog noGlob lawEv 300 lawBody lawFn 0 100000 places0 lawExc0 place0_14 = true := by kernel_rfl
theorem place0_20_yes : placeYes Try.prog noGlob lawEv 300 lawBody lawFn 0 100000 places0 lawExc0 place0_20 = true := by kernel_rfl
theorem place0_26_yes : placeYes Try.prog noGlob lawEv 300 lawBody lawFn 0 100000 places0 lawExc0 place0_26 = true := by kernel_rfl
theorem place0_32_yes : placeYes Try.prog noGlob lawEv 300 lawBody lawFn 0 100000 places0 lawExc0 place0_32 = true := by kernel_rfl
theorem place0_38_yes : placeYes Try.prog noGlob lawEv 300 lawBody lawFn 0 100000 places0 lawExc0 place0_38 = true := by kernel_rfl
theorem place0_44_yes : placeYes Try.prog noGlob lawEv 300 lawBody lawFn 0 100000 places0 lawExc0 place0_44 = true := by kernel_rfl
theorem place0_50_yes : placeYes Try.prog noGlob lawEv 300 lawBody lawFn 0 100000 places0 lawExc0 place0_50 = true := by kernel_rfl
end Go.Proofs.Ytjfgmfkcagjkoaa.Sx
