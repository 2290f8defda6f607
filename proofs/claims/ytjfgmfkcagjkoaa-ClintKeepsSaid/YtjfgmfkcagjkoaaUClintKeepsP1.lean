/- ClintKeeps: ways from one place to the next, part 1. -/
import Derived.Test.YtjfgmfkcagjkoaaUClintKeeps
namespace Go.Proofs.Ytjfgmfkcagjkoaa.Sx
open Go
set_option maxRecDepth 100000
theorem place0_5_yes : placeYes Try.prog noGlob lawEv 300 lawBody lawFn 0 100000 places0 lawExc0 place0_5 = true := by kernel_rfl
theorem place0_6_yes : placeYes Try.prog noGlob lawEv 300 lawBody lawFn 0 100000 places0 lawExc0 place0_6 = true := by kernel_rfl
theorem place0_7_yes : placeYes Try.prog noGlob lawEv 300 lawBody lawFn 0 100000 places0 lawExc0 place0_7 = true := by kernel_rfl
theorem place0_8_yes : placeYes Try.prog noGlob lawEv 300 lawBody lawFn 0 100000 places0 lawExc0 place0_8 = true := by kernel_rfl
theorem place0_9_yes : placeYes Try.prog noGlob lawEv 300 lawBody lawFn 0 100000 places0 lawExc0 place0_9 = true := by kernel_rfl
end Go.Proofs.Ytjfgmfkcagjkoaa.Sx
