/- PmpRanges: a part of its places. -/
import Derived.Test.YtamndkfgcgoacaaDoorUPmpRanges
set_option linter.unusedVariables false
set_option linter.unusedSimpArgs false
namespace Go.Proofs.YtamndkfgcgoacaaDoor.Sx
open Go
noncomputable section
set_option maxRecDepth 100000
theorem place0_5_yes : placeYes Tryd.prog (tabGlob tabs) lawEv 300 lawBody lawFn 1 100000 places0 exc0 place0_5 = true := by kernel_rfl
theorem place0_13_yes : placeYes Tryd.prog (tabGlob tabs) lawEv 300 lawBody lawFn 1 100000 places0 exc0 place0_13 = true := by kernel_rfl
theorem place0_21_yes : placeYes Tryd.prog (tabGlob tabs) lawEv 300 lawBody lawFn 1 100000 places0 exc0 place0_21 = true := by kernel_rfl
theorem place0_29_yes : placeYes Tryd.prog (tabGlob tabs) lawEv 300 lawBody lawFn 1 100000 places0 exc0 place0_29 = true := by kernel_rfl
theorem place0_37_yes : placeYes Tryd.prog (tabGlob tabs) lawEv 300 lawBody lawFn 1 100000 places0 exc0 place0_37 = true := by kernel_rfl
theorem place0_45_yes : placeYes Tryd.prog (tabGlob tabs) lawEv 300 lawBody lawFn 1 100000 places0 exc0 place0_45 = true := by kernel_rfl
theorem place0_53_yes : placeYes Tryd.prog (tabGlob tabs) lawEv 300 lawBody lawFn 1 100000 places0 exc0 place0_53 = true := by kernel_rfl
theorem place0_61_yes : placeYes Tryd.prog (tabGlob tabs) lawEv 300 lawBody lawFn 1 100000 places0 exc0 place0_61 = true := by kernel_rfl
theorem place0_69_yes : placeYes Tryd.prog (tabGlob tabs) lawEv 300 lawBody lawFn 1 100000 places0 exc0 place0_69 = true := by kernel_rfl
theorem place0_77_yes : placeYes Tryd.prog (tabGlob tabs) lawEv 300 lawBody lawFn 1 100000 places0 exc0 place0_77 = true := by kernel_rfl
theorem place0_85_yes : placeYes Tryd.prog (tabGlob tabs) lawEv 300 lawBody lawFn 1 100000 places0 exc0 place0_85 = true := by kernel_rfl
theorem place0_93_yes : placeYes Tryd.prog (tabGlob tabs) lawEv 300 lawBody lawFn 1 100000 places0 exc0 place0_93 = true := by kernel_rfl
theorem place0_101_yes : placeYes Tryd.prog (tabGlob tabs) lawEv 300 lawBody lawFn 1 100000 places0 exc0 place0_101 = true := by kernel_rfl
theorem place0_109_yes : placeYes Tryd.prog (tabGlob tabs) lawEv 300 lawBody lawFn 1 100000 places0 exc0 place0_109 = true := by kernel_rfl
theorem place0_117_yes : placeYes Tryd.prog (tabGlob tabs) lawEv 300 lawBody lawFn 1 100000 places0 exc0 place0_117 = true := by kernel_rfl
theorem place0_125_yes : placeYes Tryd.prog (tabGlob tabs) lawEv 300 lawBody lawFn 1 100000 places0 exc0 place0_125 = true := by kernel_rfl
theorem place0_133_yes : placeYes Tryd.prog (tabGlob tabs) lawEv 300 lawBody lawFn 1 100000 places0 exc0 place0_133 = true := by kernel_rfl
theorem place0_141_yes : placeYes Tryd.prog (tabGlob tabs) lawEv 300 lawBody lawFn 1 100000 places0 exc0 place0_141 = true := by kernel_rfl
end
end Go.Proofs.YtamndkfgcgoacaaDoor.Sx
