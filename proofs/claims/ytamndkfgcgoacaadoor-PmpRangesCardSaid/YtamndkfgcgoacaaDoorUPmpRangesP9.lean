/- PmpRanges: a place that is parted: a part. -/
import Derived.Test.YtamndkfgcgoacaaDoorUPmpRangesP8
set_option linter.unusedVariables false
set_option linter.unusedSimpArgs false
namespace Go.Proofs.YtamndkfgcgoacaaDoor.Sx
open Go
noncomputable section
set_option maxRecDepth 100000
theorem need0 : hasNeed 1 mP (kOf lP) (frOf lP) cP (sP 0) = true := by kernel_rfl
theorem need1 : hasNeed 1 mP (kOf lP) (frOf lP) cP (sP 1) = true := by kernel_rfl
theorem need2 : hasNeed 1 mP (kOf lP) (frOf lP) cP (sP 2) = true := by kernel_rfl
theorem need3 : hasNeed 1 mP (kOf lP) (frOf lP) cP (sP 3) = true := by kernel_rfl
theorem need4 : hasNeed 1 mP (kOf lP) (frOf lP) cP (sP 4) = true := by kernel_rfl
theorem need5 : hasNeed 1 mP (kOf lP) (frOf lP) cP (sP 5) = true := by kernel_rfl
theorem need6 : hasNeed 1 mP (kOf lP) (frOf lP) cP (sP 6) = true := by kernel_rfl
theorem need7 : hasNeed 1 mP (kOf lP) (frOf lP) cP (sP 7) = true := by kernel_rfl
theorem sub0 : cutYes 1 cP exc0 mP (kOf lP) (frOf lP) 23 (stepS 1 mP (kOf lP) (frOf lP) cP (sP 0) true) = true := by kernel_rfl
theorem sub1 : cutYes 1 cP exc0 mP (kOf lP) (frOf lP) 22 (stepS 1 mP (kOf lP) (frOf lP) cP (sP 1) true) = true := by kernel_rfl
end
end Go.Proofs.YtamndkfgcgoacaaDoor.Sx
