/- RvcDecodes: ways from one place to the next, part 0. -/
import Derived.Test.YthdhleaigphgeaaURvcDecodes
set_option linter.unusedVariables false
set_option linter.unusedSimpArgs false
namespace Go.Proofs.Ythdhleaigphgeaa.Sx
open Go
noncomputable section
set_option maxRecDepth 100000
theorem place0_0_yes : placeYes Try.prog noGlob lawEv 300 lawBody lawFn 0 100000 places0 exc0 place0_0 = true := by kernel_rfl
theorem place0_1_yes : placeYes Try.prog noGlob lawEv 300 lawBody lawFn 0 100000 places0 exc0 place0_1 = true := by kernel_rfl
theorem place0_2_yes : placeYes Try.prog noGlob lawEv 300 lawBody lawFn 0 100000 places0 exc0 place0_2 = true := by kernel_rfl
theorem place0_3_yes : placeYes Try.prog noGlob lawEv 300 lawBody lawFn 0 100000 places0 exc0 place0_3 = true := by kernel_rfl
theorem place0_4_yes : placeYes Try.prog noGlob lawEv 300 lawBody lawFn 0 100000 places0 exc0 place0_4 = true := by kernel_rfl
theorem place0_5_yes : placeYes Try.prog noGlob lawEv 300 lawBody lawFn 0 100000 places0 exc0 place0_5 = true := by kernel_rfl
theorem place0_6_yes : placeYes Try.prog noGlob lawEv 300 lawBody lawFn 0 100000 places0 exc0 place0_6 = true := by kernel_rfl
theorem place0_7_yes : placeYes Try.prog noGlob lawEv 300 lawBody lawFn 0 100000 places0 exc0 place0_7 = true := by kernel_rfl
theorem place0_8_yes : placeYes Try.prog noGlob lawEv 300 lawBody lawFn 0 100000 places0 exc0 place0_8 = true := by kernel_rfl
theorem place0_9_yes : placeYes Try.prog noGlob lawEv 300 lawBody lawFn 0 100000 places0 exc0 place0_9 = true := by kernel_rfl
theorem place0_10_yes : placeYes Try.prog noGlob lawEv 300 lawBody lawFn 0 100000 places0 exc0 place0_10 = true := by kernel_rfl
theorem place0_11_yes : placeYes Try.prog noGlob lawEv 300 lawBody lawFn 0 100000 places0 exc0 place0_11 = true := by kernel_rfl
theorem place0_12_yes : placeYes Try.prog noGlob lawEv 300 lawBody lawFn 0 100000 places0 exc0 place0_12 = true := by kernel_rfl
theorem place0_13_yes : placeYes Try.prog noGlob lawEv 300 lawBody lawFn 0 100000 places0 exc0 place0_13 = true := by kernel_rfl
theorem place0_14_yes : placeYes Try.prog noGlob lawEv 300 lawBody lawFn 0 100000 places0 exc0 place0_14 = true := by kernel_rfl
theorem place0_15_yes : placeYes Try.prog noGlob lawEv 300 lawBody lawFn 0 100000 places0 exc0 place0_15 = true := by kernel_rfl
theorem place0_16_yes : placeYes Try.prog noGlob lawEv 300 lawBody lawFn 0 100000 places0 exc0 place0_16 = true := by kernel_rfl
theorem place0_17_yes : placeYes Try.prog noGlob lawEv 300 lawBody lawFn 0 100000 places0 exc0 place0_17 = true := by kernel_rfl
theorem place0_18_yes : placeYes Try.prog noGlob lawEv 300 lawBody lawFn 0 100000 places0 exc0 place0_18 = true := by kernel_rfl
theorem place0_19_yes : placeYes Try.prog noGlob lawEv 300 lawBody lawFn 0 100000 places0 exc0 place0_19 = true := by kernel_rfl
theorem place0_20_yes : placeYes Try.prog noGlob lawEv 300 lawBody lawFn 0 100000 places0 exc0 place0_20 = true := by kernel_rfl
theorem place0_21_yes : placeYes Try.prog noGlob lawEv 300 lawBody lawFn 0 100000 places0 exc0 place0_21 = true := by kernel_rfl
theorem place0_22_yes : placeYes Try.prog noGlob lawEv 300 lawBody lawFn 0 100000 places0 exc0 place0_22 = true := by kernel_rfl
theorem place0_23_yes : placeYes Try.prog noGlob lawEv 300 lawBody lawFn 0 100000 places0 exc0 place0_23 = true := by kernel_rfl
theorem place0_24_yes : placeYes Try.prog noGlob lawEv 300 lawBody lawFn 0 100000 places0 exc0 place0_24 = true := by kernel_rfl
theorem place0_25_yes : placeYes Try.prog noGlob lawEv 300 lawBody lawFn 0 100000 places0 exc0 place0_25 = true := by kernel_rfl
theorem place0_26_yes : placeYes Try.prog noGlob lawEv 300 lawBody lawFn 0 100000 places0 exc0 place0_26 = true := by kernel_rfl
theorem place0_27_yes : placeYes Try.prog noGlob lawEv 300 lawBody lawFn 0 100000 places0 exc0 place0_27 = true := by kernel_rfl
theorem place0_28_yes : placeYes Try.prog noGlob lawEv 300 lawBody lawFn 0 100000 places0 exc0 place0_28 = true := by kernel_rfl
theorem place0_29_yes : placeYes Try.prog noGlob lawEv 300 lawBody lawFn 0 100000 places0 exc0 place0_29 = true := by kernel_rfl
theorem place0_30_yes : placeYes Try.prog noGlob lawEv 300 lawBody lawFn 0 100000 places0 exc0 place0_30 = true := by kernel_rfl
end
end Go.Proofs.Ythdhleaigphgeaa.Sx
