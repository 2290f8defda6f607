/- PmpRanges: a place that is parted: a part. -/
import Derived.Test.YtamndkfgcgoacaaDoorUPmpRangesP8
set_option linter.unusedVariables false
set_option linter.unusedSimpArgs false
namespace Go.Proofs.YtamndkfgcgoacaaDoor.Sx
open Go
noncomputable section
set_option maxRecDepth 100000
theorem sub2 : cutYes 1 cP exc0 mP (kOf lP) (frOf lP) 21 (stepS 1 mP (kOf lP) (frOf lP) cP (sP 2) true) = true := by kernel_rfl
theorem sub3 : cutYes 1 cP exc0 mP (kOf lP) (frOf lP) 20 (stepS 1 mP (kOf lP) (frOf lP) cP (sP 3) true) = true := by kernel_rfl
theorem rest8 : cutYes 1 cP exc0 mP (kOf lP) (frOf lP) 16 (sP 8) = true := by kernel_rfl
end
end Go.Proofs.YtamndkfgcgoacaaDoor.Sx
