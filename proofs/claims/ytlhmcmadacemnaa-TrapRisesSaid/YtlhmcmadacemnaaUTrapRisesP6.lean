/- TrapRises: a part of its places. -/
import Derived.Test.YtlhmcmadacemnaaUTrapRises
set_option linter.unusedVariables false
set_option linter.unusedSimpArgs false
namespace Go.Proofs.Ytlhmcmadacemnaa.Sx
open Go
noncomputable section
set_option maxRecDepth 100000
theorem place0_6_yes : placeYes Try.prog noGlob lawEv 822752278660603021077484591278675252491367932816789931674304812 lawBody lawFn 0 100000 places0 exc0 place0_6 = true := by kernel_rfl
theorem place0_20_yes : placeYes Try.prog noGlob lawEv 822752278660603021077484591278675252491367932816789931674304812 lawBody lawFn 0 100000 places0 exc0 place0_20 = true := by kernel_rfl
theorem place0_34_yes : placeYes Try.prog noGlob lawEv 822752278660603021077484591278675252491367932816789931674304812 lawBody lawFn 0 100000 places0 exc0 place0_34 = true := by kernel_rfl
theorem place0_48_yes : placeYes Try.prog noGlob lawEv 822752278660603021077484591278675252491367932816789931674304812 lawBody lawFn 0 100000 places0 exc0 place0_48 = true := by kernel_rfl
theorem place0_62_yes : placeYes Try.prog noGlob lawEv 822752278660603021077484591278675252491367932816789931674304812 lawBody lawFn 0 100000 places0 exc0 place0_62 = true := by kernel_rfl
theorem place0_76_yes : placeYes Try.prog noGlob lawEv 822752278660603021077484591278675252491367932816789931674304812 lawBody lawFn 0 100000 places0 exc0 place0_76 = true := by kernel_rfl
theorem place0_90_yes : placeYes Try.prog noGlob lawEv 822752278660603021077484591278675252491367932816789931674304812 lawBody lawFn 0 100000 places0 exc0 place0_90 = true := by kernel_rfl
theorem place0_104_yes : placeYes Try.prog noGlob lawEv 822752278660603021077484591278675252491367932816789931674304812 lawBody lawFn 0 100000 places0 exc0 place0_104 = true := by kernel_rfl
theorem place0_118_yes : placeYes Try.prog noGlob lawEv 822752278660603021077484591278675252491367932816789931674304812 lawBody lawFn 0 100000 places0 exc0 place0_118 = true := by kernel_rfl
theorem place0_132_yes : placeYes Try.prog noGlob lawEv 822752278660603021077484591278675252491367932816789931674304812 lawBody lawFn 0 100000 places0 exc0 place0_132 = true := by kernel_rfl
theorem place0_146_yes : placeYes Try.prog noGlob lawEv 822752278660603021077484591278675252491367932816789931674304812 lawBody lawFn 0 100000 places0 exc0 place0_146 = true := by kernel_rfl
end
end Go.Proofs.Ytlhmcmadacemnaa.Sx
