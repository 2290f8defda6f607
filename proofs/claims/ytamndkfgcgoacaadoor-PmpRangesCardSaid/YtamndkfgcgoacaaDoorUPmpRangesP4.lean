/- PmpRanges: a part of its places. -/
import Derived.Test.YtamndkfgcgoacaaDoorUPmpRanges
set_option linter.unusedVariables false
set_option linter.unusedSimpArgs false
namespace Go.Proofs.YtamndkfgcgoacaaDoor.Sx
open Go
noncomputable section
set_option maxRecDepth 100000
theorem place0_4_yes : placeYes Tryd.prog (tabGlob tabs) lawEv 300 lawBody lawFn 1 100000 places0 exc0 place0_4 = true := by kernel_rfl
theorem place0_12_yes : placeYes Tryd.prog (tabGlob tabs) lawEv 300 lawBody lawFn 1 100000 places0 exc0 place0_12 = true := by kernel_rfl
theorem place0_20_yes : placeYes Tryd.prog (tabGlob tabs) lawEv 300 lawBody lawFn 1 100000 places0 exc0 place0_20 = true := by kernel_rfl
theorem place0_28_yes : placeYes Tryd.prog (tabGlob tabs) lawEv 300 lawBody lawFn 1 100000 places0 exc0 place0_28 = true := by kernel_rfl
theorem place0_36_yes : placeYes Tryd.prog (tabGlob tabs) lawEv 300 lawBody lawFn 1 100000 places0 exc0 place0_36 = true := by kernel_rfl
theorem place0_44_yes : placeYes Tryd.prog (tabGlob tabs) lawEv 300 lawBody lawFn 1 100000 places0 exc0 place0_44 = true := by kernel_rfl
theorem place0_52_yes : placeYes Tryd.prog (tabGlob tabs) lawEv 300 lawBody lawFn 1 100000 places0 exc0 place0_52 = true := by kernel_rfl
theorem place0_60_yes : placeYes Tryd.prog (tabGlob tabs) lawEv 300 lawBody lawFn 1 100000 places0 exc0 place0_60 = true := by kernel_rfl
theorem place0_68_yes : placeYes Tryd.prog (tabGlob tabs) lawEv 300 lawBody lawFn 1 100000 places0 exc0 place0_68 = true := by kernel_rfl
theorem place0_84_yes : placeYes Tryd.prog (tabGlob tabs) lawEv 300 lawBody lawFn 1 100000 places0 exc0 place0_84 = true := by kernel_rfl
theorem place0_92_yes : placeYes Tryd.prog (tabGlob tabs) lawEv 300 lawBody lawFn 1 100000 places0 exc0 place0_92 = true := by kernel_rfl
theorem place0_100_yes : placeYes Tryd.prog (tabGlob tabs) lawEv 300 lawBody lawFn 1 100000 places0 exc0 place0_100 = true := by kernel_rfl
theorem place0_108_yes : placeYes Tryd.prog (tabGlob tabs) lawEv 300 lawBody lawFn 1 100000 places0 exc0 place0_108 = true := by kernel_rfl
theorem place0_116_yes : placeYes Tryd.prog (tabGlob tabs) lawEv 300 lawBody lawFn 1 100000 places0 exc0 place0_116 = true := by kernel_rfl
theorem place0_124_yes : placeYes Tryd.prog (tabGlob tabs) lawEv 300 lawBody lawFn 1 100000 places0 exc0 place0_124 = true := by kernel_rfl
theorem place0_132_yes : placeYes Tryd.prog (tabGlob tabs) lawEv 300 lawBody lawFn 1 100000 places0 exc0 place0_132 = true := by kernel_rfl
theorem place0_140_yes : placeYes Tryd.prog (tabGlob tabs) lawEv 300 lawBody lawFn 1 100000 places0 exc0 place0_140 = true := by kernel_rfl
end
end Go.Proofs.YtamndkfgcgoacaaDoor.Sx
