/- ClintPlays: a part of its places. -/
import Derived.Test.YtjfgmfkcagjkoaaUClintPlays
set_option linter.unusedVariables false
set_option linter.unusedSimpArgs false
namespace Go.Proofs.Ytjfgmfkcagjkoaa.Sx
open Go
set_option maxRecDepth 100000
theorem place0_3_yes : placeYes Try.prog noGlob lawEv 300 lawBody lawFn 0 100000 places0 lawExc0 place0_3 = true := by kernel_rfl
theorem place0_9_yes : placeYes Try.prog noGlob lawEv 300 lawBody lawFn 0 100000 places0 lawExc0 place0_9 = true := by kernel_rfl
theorem place0_15_yes : placeYes Try.prog noGlob lawEv 300 lawBody lawFn 0 100000 places0 lawExc0 place0_15 = true := by kernel_rfl
theorem place0_21_yes : placeYes Try.prog noGlob lawEv 300 lawBody lawFn 0 100000 places0 lawExc0 place0_21 = true := by kernel_rfl
theorem place0_27_yes : placeYes Try.prog noGlob lawEv 300 lawBody lawFn 0 100000 places0 lawExc0 place0_27 = true := by kernel_rfl
theorem place0_33_yes : placeYes Try.prog noGlob lawEv 300 lawBody lawFn 0 100000 places0 lawExc0 place0_33 = true := by kernel_rfl
theorem place0_39_yes : placeYes Try.prog noGlob lawEv 300 lawBody lawFn 0 100000 places0 lawExc0 place0_39 = true := by kernel_rfl
theorem place0_45_yes : placeYes Try.prog noGlob lawEv 300 lawBody lawFn 0 100000 places0 lawExc0 place0_45 = true := by kernel_rfl
theorem place0_51_yes : placeYes Try.prog noGlob lawEv 300 lawBody lawFn 0 100000 places0 lawExc0 place0_51 = true := by kernel_rfl
end Go.Proofs.Ytjfgmfkcagjkoaa.Sx
