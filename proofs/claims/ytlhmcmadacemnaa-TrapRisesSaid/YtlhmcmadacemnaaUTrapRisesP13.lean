/- TrapRises: a part of its places. -/
import Derived.Test.YtlhmcmadacemnaaUTrapRises
set_option linter.unusedVariables false
set_option linter.unusedSimpArgs false
namespace Go.Proofs.Ytlhmcmadacemnaa.Sx
open Go
noncomputable section
set_option maxRecDepth 100000
theorem place0_13_yes : placeYes Try.prog noGlob lawEv 822752278660603021077484591278675252491367932816789931674304812 lawBody lawFn 0 100000 places0 exc0 place0_13 = true := by kernel_rfl
theorem place0_27_yes : placeYes Try.prog noGlob lawEv 822752278660603021077484591278675252491367932816789931674304812 lawBody lawFn 0 100000 places0 exc0 place0_27 = true := by kernel_rfl
theorem place0_41_yes : placeYes Try.prog noGlob lawEv 822752278660603021077484591278675252491367932816789931674304812 lawBody lawFn 0 100000 places0 exc0 place0_41 = true := by kernel_rfl
theorem place0_55_yes : placeYes Try.prog noGlob lawEv 822752278660603021077484591278675252491367932816789931674304812 lawBody lawFn 0 100000 places0 exc0 place0_55 = true := by kernel_rfl
theorem place0_69_yes : placeYes Try.prog noGlob lawEv 822752278660603021077484591278675252491367932816789931674304812 lawBody lawFn 0 100000 places0 exc0 place0_69 = true := by kernel_rfl
theorem place0_83_yes : placeYes Try.prog noGlob lawEv 822752278660603021077484591278675252491367932816789931674304812 lawBody lawFn 0 100000 places0 exc0 place0_83 = true := by kernel_rfl
theorem place0_97_yes : placeYes Try.prog noGlob lawEv 822752278660603021077484591278675252491367932816789931674304812 lawBody lawFn 0 100000 places0 exc0 place0_97 = true := by kernel_rfl
theorem place0_111_yes : placeYes Try.prog noGlob lawEv 822752278660603021077484591278675252491367932816789931674304812 lawBody lawFn 0 100000 places0 exc0 place0_111 = true := by kernel_rfl
theorem place0_125_yes : placeYes Try.prog noGlob lawEv 822752278660603021077484591278675252491367932816789931674304812 lawBody lawFn 0 100000 places0 exc0 place0_125 = true := by kernel_rfl
theorem place0_139_yes : placeYes Try.prog noGlob lawEv 822752278660603021077484591278675252491367932816789931674304812 lawBody lawFn 0 100000 places0 exc0 place0_139 = true := by kernel_rfl
theorem place0_153_yes : placeYes Try.prog noGlob lawEv 822752278660603021077484591278675252491367932816789931674304812 lawBody lawFn 0 100000 places0 exc0 place0_153 = true := by kernel_rfl
end
end Go.Proofs.Ytlhmcmadacemnaa.Sx
