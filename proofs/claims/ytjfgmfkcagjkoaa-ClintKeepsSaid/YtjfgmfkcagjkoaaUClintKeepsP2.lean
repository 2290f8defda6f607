/- ClintKeeps: ways from one place to the next, part 2. -/
import Derived.Test.YtjfgmfkcagjkoaaUClintKeeps
namespace Go.Proofs.Ytjfgmfkcagjkoaa.Sx
open Go
set_option maxRecDepth 100000
theorem place0_10_yes : placeYes Try.prog noGlob lawEv 300 lawBody lawFn 0 100000 places0 lawExc0 place0_10 = true := by kernel_rfl
theorem place0_11_yes : placeYes Try.prog noGlob lawEv 300 lawBody lawFn 0 100000 places0 lawExc0 place0_11 = true := by kernel_rfl
theorem place0_12_yes : placeYes Try.prog noGlob lawEv 300 lawBody lawFn 0 100000 places0 lawExc0 place0_12 = true := by kernel_rfl
theorem place0_13_yes : placeYes Try.prog noGlob lawEv 300 lawBody lawFn 0 100000 places0 lawExc0 place0_13 = true := by kernel_rfl
theorem place0_14_yes : placeYes Try.prog noGlob lawEv 300 lawBody lawFn 0 100000 places0 lawExc0 place0_14 = true := by kernel_rfl
theorem place0_15_yes : placeYes Try.prog noGlob lawEv 300 lawBody lawFn 0 100000 places0 lawExc0 place0_15 = true := by kernel_rfl
end Go.Proofs.Ytjfgmfkcagjkoaa.Sx
