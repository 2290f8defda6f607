/- ClintPlays: a part of its places. -/
import Derived.Test.YtjfgmfkcagjkoaaUClintPlays
set_option linter.unusedVariables false
set_option linter.unusedSimpArgs false
namespace Go.Proofs.Ytjfgmfkcagjkoaa.Sx
open Go
set_option maxRecDepth 100000
theorem place0_0_yes : placeYes Try.prog noGlob lawEv 300 lawBody lawFn 0 100000 places0 lawExc0 place0_0 = true := by kernel_rfl
theorem place0_6_yes : placeYes Try.prog noGlob lawEv 300 lawBody lawFn 0 100000 places0 lawExc0 place0_6 = true := by kernel_rfl
theorem place0_12_yes : placeYes Try.prog noGlob lawEv 300 lawBody lawFn 0 100000 places0 lawExc0 place0_12 = true := by kernel_rfl
theorem place0_18_yes : placeYes Try.prog noGlob lawEv 300 lawBody lawFn 0 100000 places0 lawExc0 place0_18 = true := by kernel_rfl
theorem place0_24_yes : placeYes Try.prog noGlob lawEv 300 lawBody lawFn 0 100000 places0 lawExc0 place0_24 = true := by kernel_rfl
theorem place0_30_yes : placeYes Try.prog noGlob lawEv 300 lawBody lawFn 0 100000 places0 lawExc0 place0_30 = true := by kernel_rfl
theorem place0_36_yes : placeYes Try.prog noGlob lawEv 300 lawBody lawFn 0 100000 places0 lawExc0 place0_36 = true := by kernel_rfl
theorem place0_42_yes : placeYes Try.prog noGlob lawEv 300 lawBody lawFn 0 100000 places0 lawExc0 place0_42 = true := by kernel_rfl
theorem place0_48_yes : placeYes Try.prog noGlob lawEv 300 lawBody lawFn 0 100000 places0 lawExc0 place0_48 = true := by kernel_rfl
theorem empty_yes : startYes Try.prog noGlob lawEv 300 lawBody lawFn 0 100000 [] [] emptyArgs { nxt := 1, hp := hpOf [(0, .dead)], pc := [] } = true := by kernel_rfl
end Go.Proofs.Ytjfgmfkcagjkoaa.Sx
