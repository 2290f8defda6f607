/- PmpRanges: a part of its places. -/
import Derived.Test.YtamndkfgcgoacaaDoorUPmpRanges
set_option linter.unusedVariables false
set_option linter.unusedSimpArgs false
namespace Go.Proofs.YtamndkfgcgoacaaDoor.Sx
open Go
noncomputable section
set_option maxRecDepth 100000
theorem place0_1_yes : placeYes Tryd.prog (tabGlob tabs) lawEv 300 lawBody lawFn 1 100000 places0 exc0 place0_1 = true := by kernel_rfl
theorem place0_9_yes : placeYes Tryd.prog (tabGlob tabs) lawEv 300 lawBody lawFn 1 100000 places0 exc0 place0_9 = true := by kernel_rfl
theorem place0_17_yes : placeYes Tryd.prog (tabGlob tabs) lawEv 300 lawBody lawFn 1 100000 places0 exc0 place0_17 = true := by kernel_rfl
theorem place0_25_yes : placeYes Tryd.prog (tabGlob tabs) lawEv 300 lawBody lawFn 1 100000 places0 exc0 place0_25 = true := by kernel_rfl
theorem place0_33_yes : placeYes Tryd.prog (tabGlob tabs) lawEv 300 lawBody lawFn 1 100000 places0 exc0 place0_33 = true := by kernel_rfl
theorem place0_41_yes : placeYes Tryd.prog (tabGlob tabs) lawEv 300 lawBody lawFn 1 100000 places0 exc0 place0_41 = true := by kernel_rfl
theorem place0_49_yes : placeYes Tryd.prog (tabGlob tabs) lawEv 300 lawBody lawFn 1 100000 places0 exc0 place0_49 = true := by kernel_rfl
theorem place0_57_yes : placeYes Tryd.prog (tabGlob tabs) lawEv 300 lawBody lawFn 1 100000 places0 exc0 place0_57 = true := by kernel_rfl
theorem place0_65_yes : placeYes Tryd.prog (tabGlob tabs) lawEv 300 lawBody lawFn 1 100000 places0 exc0 place0_65 = true := by kernel_rfl
theorem place0_73_yes : placeYes Tryd.prog (tabGlob tabs) lawEv 300 lawBody lawFn 1 100000 places0 exc0 place0_73 = true := by kernel_rfl
theorem place0_81_yes : placeYes Tryd.prog (tabGlob tabs) lawEv 300 lawBody lawFn 1 100000 places0 exc0 place0_81 = true := by kernel_rfl
theorem place0_89_yes : placeYes Tryd.prog (tabGlob tabs) lawEv 300 lawBody lawFn 1 100000 places0 exc0 place0_89 = true := by kernel_rfl
theorem place0_97_yes : placeYes Tryd.prog (tabGlob tabs) lawEv 300 lawBody lawFn 1 100000 places0 exc0 place0_97 = true := by kernel_rfl
theorem place0_105_yes : placeYes Tryd.prog (tabGlob tabs) lawEv 300 lawBody lawFn 1 100000 places0 exc0 place0_105 = true := by kernel_rfl
theorem place0_113_yes : placeYes Tryd.prog (tabGlob tabs) lawEv 300 lawBody lawFn 1 100000 places0 exc0 place0_113 = true := by kernel_rfl
theorem place0_121_yes : placeYes Tryd.prog (tabGlob tabs) lawEv 300 lawBody lawFn 1 100000 places0 exc0 place0_121 = true := by kernel_rfl
theorem place0_129_yes : placeYes Tryd.prog (tabGlob tabs) lawEv 300 lawBody lawFn 1 100000 places0 exc0 place0_129 = true := by kernel_rfl
theorem place0_137_yes : placeYes Tryd.prog (tabGlob tabs) lawEv 300 lawBody lawFn 1 100000 places0 exc0 place0_137 = true := by kernel_rfl
end
end Go.Proofs.YtamndkfgcgoacaaDoor.Sx
