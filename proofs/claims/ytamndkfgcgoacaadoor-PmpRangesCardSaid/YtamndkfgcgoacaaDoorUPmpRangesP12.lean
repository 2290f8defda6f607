/- PmpRanges: a place that is parted: a part. -/
import Derived.Test.YtamndkfgcgoacaaDoorUPmpRangesP8
set_option linter.unusedVariables false
set_option linter.unusedSimpArgs false
namespace Go.Proofs.YtamndkfgcgoacaaDoor.Sx
open Go
noncomputable section
set_option maxRecDepth 100000
def tP6 : Nat → St
  | 0 => stepS 1 mP (kOf lP) (frOf lP) cP (sP 6) true
  | n + 1 => stepS 1 mP (kOf lP) (frOf lP) cP (tP6 n) true
theorem need6_0 : hasNeed 1 mP (kOf lP) (frOf lP) cP (tP6 0) = true := by kernel_rfl
theorem no6_0 : cutYes 1 cP exc0 mP (kOf lP) (frOf lP) 16 (stepS 1 mP (kOf lP) (frOf lP) cP (tP6 0) false) = true := by kernel_rfl
theorem need6_1 : hasNeed 1 mP (kOf lP) (frOf lP) cP (tP6 1) = true := by kernel_rfl
theorem no6_1 : cutYes 1 cP exc0 mP (kOf lP) (frOf lP) 15 (stepS 1 mP (kOf lP) (frOf lP) cP (tP6 1) false) = true := by kernel_rfl
theorem need6_2 : hasNeed 1 mP (kOf lP) (frOf lP) cP (tP6 2) = true := by kernel_rfl
theorem no6_2 : cutYes 1 cP exc0 mP (kOf lP) (frOf lP) 14 (stepS 1 mP (kOf lP) (frOf lP) cP (tP6 2) false) = true := by kernel_rfl
theorem need6_3 : hasNeed 1 mP (kOf lP) (frOf lP) cP (tP6 3) = true := by kernel_rfl
theorem no6_3 : cutYes 1 cP exc0 mP (kOf lP) (frOf lP) 13 (stepS 1 mP (kOf lP) (frOf lP) cP (tP6 3) false) = true := by kernel_rfl
theorem need6_4 : hasNeed 1 mP (kOf lP) (frOf lP) cP (tP6 4) = true := by kernel_rfl
theorem no6_4 : cutYes 1 cP exc0 mP (kOf lP) (frOf lP) 12 (stepS 1 mP (kOf lP) (frOf lP) cP (tP6 4) false) = true := by kernel_rfl
theorem need6_5 : hasNeed 1 mP (kOf lP) (frOf lP) cP (tP6 5) = true := by kernel_rfl
theorem no6_5 : cutYes 1 cP exc0 mP (kOf lP) (frOf lP) 11 (stepS 1 mP (kOf lP) (frOf lP) cP (tP6 5) false) = true := by kernel_rfl
theorem need6_6 : hasNeed 1 mP (kOf lP) (frOf lP) cP (tP6 6) = true := by kernel_rfl
theorem no6_6 : cutYes 1 cP exc0 mP (kOf lP) (frOf lP) 10 (stepS 1 mP (kOf lP) (frOf lP) cP (tP6 6) false) = true := by kernel_rfl
theorem yes6_7 : cutYes 1 cP exc0 mP (kOf lP) (frOf lP) 10 (tP6 7) = true := by kernel_rfl
theorem yes6_6 : cutYes 1 cP exc0 mP (kOf lP) (frOf lP) 11 (tP6 6) = true := cutYes_step need6_6 yes6_7 no6_6
theorem yes6_5 : cutYes 1 cP exc0 mP (kOf lP) (frOf lP) 12 (tP6 5) = true := cutYes_step need6_5 yes6_6 no6_5
theorem yes6_4 : cutYes 1 cP exc0 mP (kOf lP) (frOf lP) 13 (tP6 4) = true := cutYes_step need6_4 yes6_5 no6_4
theorem yes6_3 : cutYes 1 cP exc0 mP (kOf lP) (frOf lP) 14 (tP6 3) = true := cutYes_step need6_3 yes6_4 no6_3
theorem yes6_2 : cutYes 1 cP exc0 mP (kOf lP) (frOf lP) 15 (tP6 2) = true := cutYes_step need6_2 yes6_3 no6_2
theorem yes6_1 : cutYes 1 cP exc0 mP (kOf lP) (frOf lP) 16 (tP6 1) = true := cutYes_step need6_1 yes6_2 no6_1
theorem yes6_0 : cutYes 1 cP exc0 mP (kOf lP) (frOf lP) 17 (tP6 0) = true := cutYes_step need6_0 yes6_1 no6_0
theorem sub6 : cutYes 1 cP exc0 mP (kOf lP) (frOf lP) 17 (stepS 1 mP (kOf lP) (frOf lP) cP (sP 6) true) = true := yes6_0
end
end Go.Proofs.YtamndkfgcgoacaaDoor.Sx
