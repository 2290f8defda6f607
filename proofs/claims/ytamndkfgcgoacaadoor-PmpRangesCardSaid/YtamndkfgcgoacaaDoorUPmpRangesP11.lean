/- PmpRanges: a place that is parted: a part. -/
import Derived.Test.YtamndkfgcgoacaaDoorUPmpRangesP8
set_option linter.unusedVariables false
set_option linter.unusedSimpArgs false
namespace Go.Proofs.YtamndkfgcgoacaaDoor.Sx
open Go
noncomputable section
set_option maxRecDepth 100000
theorem sub4 : cutYes 1 cP exc0 mP (kOf lP) (frOf lP) 19 (stepS 1 mP (kOf lP) (frOf lP) cP (sP 4) true) = true := by kernel_rfl
def tP5 : Nat → St
  | 0 => stepS 1 mP (kOf lP) (frOf lP) cP (sP 5) true
  | n + 1 => stepS 1 mP (kOf lP) (frOf lP) cP (tP5 n) true
theorem need5_0 : hasNeed 1 mP (kOf lP) (frOf lP) cP (tP5 0) = true := by kernel_rfl
theorem no5_0 : cutYes 1 cP exc0 mP (kOf lP) (frOf lP) 17 (stepS 1 mP (kOf lP) (frOf lP) cP (tP5 0) false) = true := by kernel_rfl
theorem need5_1 : hasNeed 1 mP (kOf lP) (frOf lP) cP (tP5 1) = true := by kernel_rfl
theorem no5_1 : cutYes 1 cP exc0 mP (kOf lP) (frOf lP) 16 (stepS 1 mP (kOf lP) (frOf lP) cP (tP5 1) false) = true := by kernel_rfl
theorem need5_2 : hasNeed 1 mP (kOf lP) (frOf lP) cP (tP5 2) = true := by kernel_rfl
theorem no5_2 : cutYes 1 cP exc0 mP (kOf lP) (frOf lP) 15 (stepS 1 mP (kOf lP) (frOf lP) cP (tP5 2) false) = true := by kernel_rfl
theorem need5_3 : hasNeed 1 mP (kOf lP) (frOf lP) cP (tP5 3) = true := by kernel_rfl
theorem no5_3 : cutYes 1 cP exc0 mP (kOf lP) (frOf lP) 14 (stepS 1 mP (kOf lP) (frOf lP) cP (tP5 3) false) = true := by kernel_rfl
theorem need5_4 : hasNeed 1 mP (kOf lP) (frOf lP) cP (tP5 4) = true := by kernel_rfl
theorem no5_4 : cutYes 1 cP exc0 mP (kOf lP) (frOf lP) 13 (stepS 1 mP (kOf lP) (frOf lP) cP (tP5 4) false) = true := by kernel_rfl
theorem need5_5 : hasNeed 1 mP (kOf lP) (frOf lP) cP (tP5 5) = true := by kernel_rfl
theorem no5_5 : cutYes 1 cP exc0 mP (kOf lP) (frOf lP) 12 (stepS 1 mP (kOf lP) (frOf lP) cP (tP5 5) false) = true := by kernel_rfl
theorem need5_6 : hasNeed 1 mP (kOf lP) (frOf lP) cP (tP5 6) = true := by kernel_rfl
theorem no5_6 : cutYes 1 cP exc0 mP (kOf lP) (frOf lP) 11 (stepS 1 mP (kOf lP) (frOf lP) cP (tP5 6) false) = true := by kernel_rfl
theorem yes5_7 : cutYes 1 cP exc0 mP (kOf lP) (frOf lP) 11 (tP5 7) = true := by kernel_rfl
theorem yes5_6 : cutYes 1 cP exc0 mP (kOf lP) (frOf lP) 12 (tP5 6) = true := cutYes_step need5_6 yes5_7 no5_6
theorem yes5_5 : cutYes 1 cP exc0 mP (kOf lP) (frOf lP) 13 (tP5 5) = true := cutYes_step need5_5 yes5_6 no5_5
theorem yes5_4 : cutYes 1 cP exc0 mP (kOf lP) (frOf lP) 14 (tP5 4) = true := cutYes_step need5_4 yes5_5 no5_4
theorem yes5_3 : cutYes 1 cP exc0 mP (kOf lP) (frOf lP) 15 (tP5 3) = true := cutYes_step need5_3 yes5_4 no5_3
theorem yes5_2 : cutYes 1 cP exc0 mP (kOf lP) (frOf lP) 16 (tP5 2) = true := cutYes_step need5_2 yes5_3 no5_2
theorem yes5_1 : cutYes 1 cP exc0 mP (kOf lP) (frOf lP) 17 (tP5 1) = true := cutYes_step need5_1 yes5_2 no5_1
theorem yes5_0 : cutYes 1 cP exc0 mP (kOf lP) (frOf lP) 18 (tP5 0) = true := cutYes_step need5_0 yes5_1 no5_0
theorem sub5 : cutYes 1 cP exc0 mP (kOf lP) (frOf lP) 18 (stepS 1 mP (kOf lP) (frOf lP) cP (sP 5) true) = true := yes5_0
end
end Go.Proofs.YtamndkfgcgoacaaDoor.Sx
