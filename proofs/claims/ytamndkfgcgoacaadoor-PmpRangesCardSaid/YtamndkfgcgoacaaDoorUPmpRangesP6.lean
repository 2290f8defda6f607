/- PmpRanges: a part of its places. -/
import Derived.Test.YtamndkfgcgoacaaDoorUPmpRanges
set_option linter.unusedVariables false
set_option linter.unusedSimpArgs false
namespace Go.Proofs.YtamndkfgcgoacaaDoor.Sx
open Go
noncomputable section
set_option maxRecDepth 100000
theorem place0_6_yes : placeYes Tryd.prog (tabGlob tabs) lawEv 300 lawBody lawFn 1 100000 places0 exc0 place0_6 = true := by kernel_rfl
theorem place0_14_yes : placeYes Tryd.prog (tabGlob tabs) lawEv 300 lawBody lawFn 1 100000 places0 exc0 place0_14 = true := by kernel_rfl
theorem place0_22_yes : placeYes Tryd.prog (tabGlob tabs) lawEv 300 lawBody lawFn 1 100000 places0 exc0 place0_22 = true := by kernel_rfl
theorem place0_30_yes : placeYes Tryd.prog (tabGlob tabs) lawEv 300 lawBody lawFn 1 100000 places0 exc0 place0_30 = true := by kernel_rfl
theorem place0_38_yes : placeYes Tryd.prog (tabGlob tabs) lawEv 300 lawBody lawFn 1 100000 places0 exc0 place0_38 = true := by kernel_rfl
theorem place0_46_yes : placeYes Tryd.prog (tabGlob tabs) lawEv 300 lawBody lawFn 1 100000 places0 exc0 place0_46 = true := by kernel_rfl
theorem place0_54_yes : placeYes Tryd.prog (tabGlob tabs) lawEv 300 lawBody lawFn 1 100000 places0 exc0 place0_54 = true := by kernel_rfl
theorem place0_62_yes : placeYes Tryd.prog (tabGlob tabs) lawEv 300 lawBody lawFn 1 100000 places0 exc0 place0_62 = true := by kernel_rfl
theorem place0_70_yes : placeYes Tryd.prog (tabGlob tabs) lawEv 300 lawBody lawFn 1 100000 places0 exc0 place0_70 = true := by kernel_rfl
theorem place0_78_yes : placeYes Tryd.prog (tabGlob tabs) lawEv 300 lawBody lawFn 1 100000 places0 exc0 place0_78 = true := by kernel_rfl
theorem place0_86_yes : placeYes Tryd.prog (tabGlob tabs) lawEv 300 lawBody lawFn 1 100000 places0 exc0 place0_86 = true := by kernel_rfl
theorem place0_94_yes : placeYes Tryd.prog (tabGlob tabs) lawEv 300 lawBody lawFn 1 100000 places0 exc0 place0_94 = true := by kernel_rfl
theorem place0_102_yes : placeYes Tryd.prog (tabGlob tabs) lawEv 300 lawBody lawFn 1 100000 places0 exc0 place0_102 = true := by kernel_rfl
theorem place0_110_yes : placeYes Tryd.prog (tabGlob tabs) lawEv 300 lawBody lawFn 1 100000 places0 exc0 place0_110 = true := by kernel_rfl
theorem place0_118_yes : placeYes Tryd.prog (tabGlob tabs) lawEv 300 lawBody lawFn 1 100000 places0 exc0 place0_118 = true := by kernel_rfl
theorem place0_126_yes : placeYes Tryd.prog (tabGlob tabs) lawEv 300 lawBody lawFn 1 100000 places0 exc0 place0_126 = true := by kernel_rfl
theorem place0_134_yes : placeYes Tryd.prog (tabGlob tabs) lawEv 300 lawBody lawFn 1 100000 places0 exc0 place0_134 = true := by kernel_rfl
theorem start0_yes : startYes Tryd.prog (tabGlob tabs) lawEv 300 lawBody lawFn 1 100000 places0 exc0 (psV lawPs 0) (stTab tabs lawPc0) = true := by kernel_rfl
end
end Go.Proofs.YtamndkfgcgoacaaDoor.Sx
