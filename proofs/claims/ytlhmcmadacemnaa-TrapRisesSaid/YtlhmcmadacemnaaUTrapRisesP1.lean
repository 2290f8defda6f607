/- TrapRises: a part of its places. -/
import Derived.Test.YtlhmcmadacemnaaUTrapRises
set_option linter.unusedVariables false
set_option linter.unusedSimpArgs false
namespace Go.Proofs.Ytlhmcmadacemnaa.Sx
open Go
noncomputable section
set_option maxRecDepth 100000
theorem place0_1_yes : placeYes Try.prog noGlob lawEv 822752278660603021077484591278675252491367932816789931674304812 lawBody lawFn 0 100000 places0 exc0 place0_1 = true := by kernel_rfl
theorem place0_15_yes : placeYes Try.prog noGlob lawEv 822752278660603021077484591278675252491367932816789931674304812 lawBody lawFn 0 100000 places0 exc0 place0_15 = true := by kernel_rfl
theorem place0_29_yes : placeYes Try.prog noGlob lawEv 822752278660603021077484591278675252491367932816789931674304812 lawBody lawFn 0 100000 places0 exc0 place0_29 = true := by kernel_rfl
theorem place0_43_yes : placeYes Try.prog noGlob lawEv 822752278660603021077484591278675252491367932816789931674304812 lawBody lawFn 0 100000 places0 exc0 place0_43 = true := by kernel_rfl
theorem place0_57_yes : placeYes Try.prog noGlob lawEv 822752278660603021077484591278675252491367932816789931674304812 lawBody lawFn 0 100000 places0 exc0 place0_57 = true := by kernel_rfl
theorem place0_71_yes : placeYes Try.prog noGlob lawEv 822752278660603021077484591278675252491367932816789931674304812 lawBody lawFn 0 100000 places0 exc0 place0_71 = true := by kernel_rfl
theorem place0_85_yes : placeYes Try.prog noGlob lawEv 822752278660603021077484591278675252491367932816789931674304812 lawBody lawFn 0 100000 places0 exc0 place0_85 = true := by kernel_rfl
theorem place0_99_yes : placeYes Try.prog noGlob lawEv 822752278660603021077484591278675252491367932816789931674304812 lawBody lawFn 0 100000 places0 exc0 place0_99 = true := by kernel_rfl
theorem place0_113_yes : placeYes Try.prog noGlob lawEv 822752278660603021077484591278675252491367932816789931674304812 lawBody lawFn 0 100000 places0 exc0 place0_113 = true := by kernel_rfl
theorem place0_127_yes : placeYes Try.prog noGlob lawEv 822752278660603021077484591278675252491367932816789931674304812 lawBody lawFn 0 100000 places0 exc0 place0_127 = true := by kernel_rfl
theorem place0_141_yes : placeYes Try.prog noGlob lawEv 822752278660603021077484591278675252491367932816789931674304812 lawBody lawFn 0 100000 places0 exc0 place0_141 = true := by kernel_rfl
end
end Go.Proofs.Ytlhmcmadacemnaa.Sx
