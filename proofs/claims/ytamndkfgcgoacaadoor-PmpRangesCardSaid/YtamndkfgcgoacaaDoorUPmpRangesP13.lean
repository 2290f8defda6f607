/- PmpRanges: a place that is parted: a part. -/
import Derived.Test.YtamndkfgcgoacaaDoorUPmpRangesP8
set_option linter.unusedVariables false
set_option linter.unusedSimpArgs false
namespace Go.Proofs.YtamndkfgcgoacaaDoor.Sx
open Go
noncomputable section
set_option maxRecDepth 100000
def tP7 : Nat → St
  | 0 => stepS 1 mP (kOf lP) (frOf lP) cP (sP 7) true
  | n + 1 => stepS 1 mP (kOf lP) (frOf lP) cP (tP7 n) true
theorem need7_0 : hasNeed 1 mP (kOf lP) (frOf lP) cP (tP7 0) = true := by kernel_rfl
theorem no7_0 : cutYes 1 cP exc0 mP (kOf lP) (frOf lP) 15 (stepS 1 mP (kOf lP) (frOf lP) cP (tP7 0) false) = true := by kernel_rfl
theorem need7_1 : hasNeed 1 mP (kOf lP) (frOf lP) cP (tP7 1) = true := by kernel_rfl
theorem no7_1 : cutYes 1 cP exc0 mP (kOf lP) (frOf lP) 14 (stepS 1 mP (kOf lP) (frOf lP) cP (tP7 1) false) = true := by kernel_rfl
theorem need7_2 : hasNeed 1 mP (kOf lP) (frOf lP) cP (tP7 2) = true := by kernel_rfl
theorem no7_2 : cutYes 1 cP exc0 mP (kOf lP) (frOf lP) 13 (stepS 1 mP (kOf lP) (frOf lP) cP (tP7 2) false) = true := by kernel_rfl
theorem need7_3 : hasNeed 1 mP (kOf lP) (frOf lP) cP (tP7 3) = true := by kernel_rfl
theorem no7_3 : cutYes 1 cP exc0 mP (kOf lP) (frOf lP) 12 (stepS 1 mP (kOf lP) (frOf lP) cP (tP7 3) false) = true := by kernel_rfl
theorem need7_4 : hasNeed 1 mP (kOf lP) (frOf lP) cP (tP7 4) = true := by kernel_rfl
theorem no7_4 : cutYes 1 cP exc0 mP (kOf lP) (frOf lP) 11 (stepS 1 mP (kOf lP) (frOf lP) cP (tP7 4) false) = true := by kernel_rfl
theorem need7_5 : hasNeed 1 mP (kOf lP) (frOf lP) cP (tP7 5) = true := by kernel_rfl
theorem no7_5 : cutYes 1 cP exc0 mP (kOf lP) (frOf lP) 10 (stepS 1 mP (kOf lP) (frOf lP) cP (tP7 5) false) = true := by kernel_rfl
theorem need7_6 : hasNeed 1 mP (kOf lP) (frOf lP) cP (tP7 6) = true := by kernel_rfl
theorem no7_6 : cutYes 1 cP exc0 mP (kOf lP) (frOf lP) 9 (stepS 1 mP (kOf lP) (frOf lP) cP (tP7 6) false) = true := by kernel_rfl
theorem yes7_7 : cutYes 1 cP exc0 mP (kOf lP) (frOf lP) 9 (tP7 7) = true := by kernel_rfl
theorem yes7_6 : cutYes 1 cP exc0 mP (kOf lP) (frOf lP) 10 (tP7 6) = true := cutYes_step need7_6 yes7_7 no7_6
theorem yes7_5 : cutYes 1 cP exc0 mP (kOf lP) (frOf lP) 11 (tP7 5) = true := cutYes_step need7_5 yes7_6 no7_5
theorem yes7_4 : cutYes 1 cP exc0 mP (kOf lP) (frOf lP) 12 (tP7 4) = true := cutYes_step need7_4 yes7_5 no7_4
theorem yes7_3 : cutYes 1 cP exc0 mP (kOf lP) (frOf lP) 13 (tP7 3) = true := cutYes_step need7_3 yes7_4 no7_3
theorem yes7_2 : cutYes 1 cP exc0 mP (kOf lP) (frOf lP) 14 (tP7 2) = true := cutYes_step need7_2 yes7_3 no7_2
theorem yes7_1 : cutYes 1 cP exc0 mP (kOf lP) (frOf lP) 15 (tP7 1) = true := cutYes_step need7_1 yes7_2 no7_1
theorem yes7_0 : cutYes 1 cP exc0 mP (kOf lP) (frOf lP) 16 (tP7 0) = true := cutYes_step need7_0 yes7_1 no7_0
theorem sub7 : cutYes 1 cP exc0 mP (kOf lP) (frOf lP) 16 (stepS 1 mP (kOf lP) (frOf lP) cP (sP 7) true) = true := yes7_0
end
end Go.Proofs.YtamndkfgcgoacaaDoor.Sx
