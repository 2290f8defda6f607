/- PmpRanges: a place that is parted: all together. -/
import Derived.Test.YtamndkfgcgoacaaDoorUPmpRangesP9
import Derived.Test.YtamndkfgcgoacaaDoorUPmpRangesP10
import Derived.Test.YtamndkfgcgoacaaDoorUPmpRangesP11
import Derived.Test.YtamndkfgcgoacaaDoorUPmpRangesP12
import Derived.Test.YtamndkfgcgoacaaDoorUPmpRangesP13
set_option linter.unusedVariables false
set_option linter.unusedSimpArgs false
namespace Go.Proofs.YtamndkfgcgoacaaDoor.Sx
open Go
noncomputable section
set_option maxRecDepth 100000
theorem rest7 : cutYes 1 cP exc0 mP (kOf lP) (frOf lP) 17 (sP 7) = true := cutYes_step need7 sub7 rest8
theorem rest6 : cutYes 1 cP exc0 mP (kOf lP) (frOf lP) 18 (sP 6) = true := cutYes_step need6 sub6 rest7
theorem rest5 : cutYes 1 cP exc0 mP (kOf lP) (frOf lP) 19 (sP 5) = true := cutYes_step need5 sub5 rest6
theorem rest4 : cutYes 1 cP exc0 mP (kOf lP) (frOf lP) 20 (sP 4) = true := cutYes_step need4 sub4 rest5
theorem rest3 : cutYes 1 cP exc0 mP (kOf lP) (frOf lP) 21 (sP 3) = true := cutYes_step need3 sub3 rest4
theorem rest2 : cutYes 1 cP exc0 mP (kOf lP) (frOf lP) 22 (sP 2) = true := cutYes_step need2 sub2 rest3
theorem rest1 : cutYes 1 cP exc0 mP (kOf lP) (frOf lP) 23 (sP 1) = true := cutYes_step need1 sub1 rest2
theorem rest0 : cutYes 1 cP exc0 mP (kOf lP) (frOf lP) 24 (sP 0) = true := cutYes_step need0 sub0 rest1
theorem wfP : place0_76.wf = true := by kernel_rfl
theorem place0_76_yes : placeYes Tryd.prog (tabGlob tabs) lawEv 300 lawBody lawFn 1 100000 places0 exc0 place0_76 = true := by
  unfold placeYes
  rw [wfP]
  have h := drvP_eq
  unfold drvP at h
  rw [h, cut1_eq lP_cut]
  simp only [List.all_cons, List.all_nil, Bool.and_true, Bool.true_and, stpYes]
  rw [candGo_eq]
  exact rest0
end
end Go.Proofs.YtamndkfgcgoacaaDoor.Sx
