/- TrapRises: a part of its places. -/
import Derived.Test.YtlhmcmadacemnaaUTrapRises
set_option linter.unusedVariables false
set_option linter.unusedSimpArgs false
namespace Go.Proofs.Ytlhmcmadacemnaa.Sx
open Go
noncomputable section
set_option maxRecDepth 100000
theorem place0_2_yes : placeYes Try.prog noGlob lawEv 822752278660603021077484591278675252491367932816789931674304812 lawBody lawFn 0 100000 places0 exc0 place0_2 = true := by kernel_rfl
theorem place0_16_yes : placeYes Try.prog noGlob lawEv 822752278660603021077484591278675252491367932816789931674304812 lawBody lawFn 0 100000 places0 exc0 place0_16 = true := by kernel_rfl
theorem place0_30_yes : placeYes Try.prog noGlob lawEv 822752278660603021077484591278675252491367932816789931674304812 lawBody lawFn 0 100000 places0 exc0 place0_30 = true := by kernel_rfl
theorem place0_44_yes : placeYes Try.prog noGlob lawEv 822752278660603021077484591278675252491367932816789931674304812 lawBody lawFn 0 100000 places0 exc0 place0_44 = true := by kernel_rfl
theorem place0_58_yes : placeYes Try.prog noGlob lawEv 822752278660603021077484591278675252491367932816789931674304812 lawBody lawFn 0 100000 places0 exc0 place0_58 = true := by kernel_rfl
theorem place0_72_yes : placeYes Try.prog noGlob lawEv 822752278660603021077484591278675252491367932816789931674304812 lawBody lawFn 0 100000 places0 exc0 place0_72 = true := by kernel_rfl
theorem place0_86_yes : placeYes Try.prog noGlob lawEv 822752278660603021077484591278675252491367932816789931674304812 lawBody lawFn 0 100000 places0 exc0 place0_86 = true := by kernel_rfl
theorem place0_100_yes : placeYes Try.prog noGlob lawEv 822752278660603021077484591278675252491367932816789931674304812 lawBody lawFn 0 100000 places0 exc0 place0_100 = true := by kernel_rfl
theorem place0_114_yes : placeYes Try.prog noGlob lawEv 822752278660603021077484591278675252491367932816789931674304812 lawBody lawFn 0 100000 places0 exc0 place0_114 = true := by kernel_rfl
theorem place0_128_yes : placeYes Try.prog noGlob lawEv 822752278660603021077484591278675252491367932816789931674304812 lawBody lawFn 0 100000 places0 exc0 place0_128 = true := by kernel_rfl
theorem place0_142_yes : placeYes Try.prog noGlob lawEv 822752278660603021077484591278675252491367932816789931674304812 lawBody lawFn 0 100000 places0 exc0 place0_142 = true := by kernel_rfl
end
end Go.Proofs.Ytlhmcmadacemnaa.Sx
