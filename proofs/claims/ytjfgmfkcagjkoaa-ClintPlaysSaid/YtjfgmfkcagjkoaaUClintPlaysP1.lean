/- ClintPlays: a part of its places. -/
import Derived.Test.YtjfgmfkcagjkoaaUClintPlays
set_option linter.unusedVariables false
set_option linter.unusedSimpArgs false
namespace Go.Proofs.Ytjfgmfkcagjkoaa.Sx
open Go
set_option maxRecDepth 100000
theorem place0_1_yes : placeYes Try.prog noGlob lawEv 300 lawBody lawFn 0 100000 places0 lawExc0 place0_1 = true := by kernel_rfl
theorem place0_7_yes : placeYes Try.prog noGlob lawEv 300 lawBody lawFn 0 100000 places0 lawExc0 place0_7 = true := by kernel_rfl
theorem place0_13_yes : placeYes Try.prog noGlob lawEv 300 lawBody lawFn 0 100000 places0 lawExc0 place0_13 = true := by kernel_rfl
theorem place0_19_yes : placeYes Try.prog noGlob lawEv 300 lawBody lawFn 0 100000 places0 lawExc0 place0_19 = true := by kernel_rfl
theorem place0_25_yes : placeYes Try.prog noGlob lawEv 300 lawBody lawFn 0 100000 places0 lawExc0 place0_25 = true := by kernel_rfl
theorem place0_31_yes : placeYes Try.prog noGlob lawEv 300 lawBody lawFn 0 100000 places0 lawExc0 place0_31 = true := by kernel_rfl
theorem place0_37_yes : placeYes Try.prog noGlob lawEv 300 lawBody lawFn 0 100000 places0 lawExc0 place0_37 = true := by kernel_rfl
theorem place0_43_yes : placeYes Try.prog noGlob lawEv 300 lawBody lawFn 0 100000 places0 lawExc0 place0_43 = true := by kernel_rfl
theorem place0_49_yes : placeYes Try.prog noGlob lawEv 300 lawBody lawFn 0 100000 places0 lawExc0 place0_49 = true := by kernel_rfl
theorem nil_yes : startYes Try.prog noGlob lawEv 300 lawBody lawFn 0 100000 [] [] nilArgs { nxt := 0, hp := .nil, pc := [] } = true := by kernel_rfl
end Go.Proofs.Ytjfgmfkcagjkoaa.Sx
