/- ClintKeeps: ways from one place to the next, part 3. -/
import Derived.Test.YtjfgmfkcagjkoaaUClintKeeps
namespace Go.Proofs.Ytjfgmfkcagjkoaa.Sx
open Go
set_option maxRecDepth 100000
theorem place0_16_yes : placeYes Try.prog noGlob lawEv 300 lawBody lawFn 0 100000 places0 lawExc0 place0_16 = true := by kernel_rfl
theorem place0_17_yes : placeYes Try.prog noGlob lawEv 300 lawBody lawFn 0 100000 places0 lawExc0 place0_17 = true := by kernel_rfl
theorem place0_18_yes : placeYes Try.prog noGlob lawEv 300 lawBody lawFn 0 100000 places0 lawExc0 place0_18 = true := by kernel_rfl
theorem place0_19_yes : placeYes Try.prog noGlob lawEv 300 lawBody lawFn 0 100000 places0 lawExc0 place0_19 = true := by kernel_rfl
theorem place0_20_yes : placeYes Try.prog noGlob lawEv 300 lawBody lawFn 0 100000 places0 lawExc0 place0_20 = true := by kernel_rfl
theorem place0_21_yes : placeYes Try.prog noGlob lawEv 300 lawBody lawFn 0 100000 places0 lawExc0 place0_21 = true := by kernel_rfl
end Go.Proofs.Ytjfgmfkcagjkoaa.Sx
