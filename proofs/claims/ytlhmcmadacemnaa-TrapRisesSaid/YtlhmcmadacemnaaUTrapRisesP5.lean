/- TrapRises: a part of its places. -/
import Derived.Test.YtlhmcmadacemnaaUTrapRises
set_option linter.unusedVariables false
set_option linter.unusedSimpArgs false
namespace Go.Proofs.Ytlhmcmadacemnaa.Sx
open Go
noncomputable section
set_option maxRecDepth 100000
theorem place0_5_yes : placeYes Try.prog noGlob lawEv 822752278660603021077484591278675252491367932816789931674304812 lawBody lawFn 0 100000 places0 exc0 place0_5 = true := by kernel_rfl
theorem place0_19_yes : placeYes Try.prog noGlob lawEv 822752278660603021077484591278675252491367932816789931674304812 lawBody lawFn 0 100000 places0 exc0 place0_19 = true := by kernel_rfl
theorem place0_33_yes : placeYes Try.prog noGlob lawEv 822752278660603021077484591278675252491367932816789931674304812 lawBody lawFn 0 100000 places0 exc0 place0_33 = true := by kernel_rfl
theorem place0_47_yes : placeYes Try.prog noGlob lawEv 822752278660603021077484591278675252491367932816789931674304812 lawBody lawFn 0 100000 places0 exc0 place0_47 = true := by kernel_rfl
theorem place0_61_yes : placeYes Try.prog noGlob lawEv 822752278660603021077484591278675252491367932816789931674304812 lawBody lawFn 0 100000 places0 exc0 place0_61 = true := by kernel_rfl
theorem place0_75_yes : placeYes Try.prog noGlob lawEv 822752278660603021077484591278675252491367932816789931674304812 lawBody lawFn 0 100000 places0 exc0 place0_75 = true := by kernel_rfl
theorem place0_89_yes : placeYes Try.prog noGlob lawEv 822752278660603021077484591278675252491367932816789931674304812 lawBody lawFn 0 100000 places0 exc0 place0_89 = true := by kernel_rfl
theorem place0_103_yes : placeYes Try.prog noGlob lawEv 822752278660603021077484591278675252491367932816789931674304812 lawBody lawFn 0 100000 places0 exc0 place0_103 = true := by kernel_rfl
theorem place0_117_yes : placeYes Try.prog noGlob lawEv 822752278660603021077484591278675252491367932816789931674304812 lawBody lawFn 0 100000 places0 exc0 place0_117 = true := by kernel_rfl
theorem place0_131_yes : placeYes Try.prog noGlob lawEv 822752278660603021077484591278675252491367932816789931674304812 lawBody lawFn 0 100000 places0 exc0 place0_131 = true := by kernel_rfl
theorem place0_145_yes : placeYes Try.prog noGlob lawEv 822752278660603021077484591278675252491367932816789931674304812 lawBody lawFn 0 100000 places0 exc0 place0_145 = true := by kernel_rfl
end
end Go.Proofs.Ytlhmcmadacemnaa.Sx
