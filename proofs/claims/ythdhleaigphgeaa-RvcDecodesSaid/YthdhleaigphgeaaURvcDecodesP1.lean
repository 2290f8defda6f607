/- RvcDecodes: ways from one place to the next, part 1. -/
import Derived.Test.YthdhleaigphgeaaURvcDecodes
set_option linter.unusedVariables false
set_option linter.unusedSimpArgs false
namespace Go.Proofs.Ythdhleaigphgeaa.Sx
open Go
noncomputable section
set_option maxRecDepth 100000
theorem place0_31_yes : placeYes Try.prog noGlob lawEv 300 lawBody lawFn 0 100000 places0 exc0 place0_31 = true := by kernel_rfl
theorem place0_32_yes : placeYes Try.prog noGlob lawEv 300 lawBody lawFn 0 100000 places0 exc0 place0_32 = true := by kernel_rfl
theorem place0_33_yes : placeYes Try.prog noGlob lawEv 300 lawBody lawFn 0 100000 places0 exc0 place0_33 = true := by kernel_rfl
theorem place0_34_yes : placeYes Try.prog noGlob lawEv 300 lawBody lawFn 0 100000 places0 exc0 place0_34 = true := by kernel_rfl
theorem place0_35_yes : placeYes Try.prog noGlob lawEv 300 lawBody lawFn 0 100000 places0 exc0 place0_35 = true := by kernel_rfl
theorem place0_36_yes : placeYes Try.prog noGlob lawEv 300 lawBody lawFn 0 100000 places0 exc0 place0_36 = true := by kernel_rfl
theorem place0_37_yes : placeYes Try.prog noGlob lawEv 300 lawBody lawFn 0 100000 places0 exc0 place0_37 = true := by kernel_rfl
theorem place0_38_yes : placeYes Try.prog noGlob lawEv 300 lawBody lawFn 0 100000 places0 exc0 place0_38 = true := by kernel_rfl
theorem place0_39_yes : placeYes Try.prog noGlob lawEv 300 lawBody lawFn 0 100000 places0 exc0 place0_39 = true := by kernel_rfl
theorem place0_40_yes : placeYes Try.prog noGlob lawEv 300 lawBody lawFn 0 100000 places0 exc0 place0_40 = true := by kernel_rfl
theorem place0_41_yes : placeYes Try.prog noGlob lawEv 300 lawBody lawFn 0 100000 places0 exc0 place0_41 = true := by kernel_rfl
theorem place0_42_yes : placeYes Try.prog noGlob lawEv 300 lawBody lawFn 0 100000 places0 exc0 place0_42 = true := by kernel_rfl
theorem place0_43_yes : placeYes Try.prog noGlob lawEv 300 lawBody lawFn 0 100000 places0 exc0 place0_43 = true := by kernel_rfl
theorem place0_44_yes : placeYes Try.prog noGlob lawEv 300 lawBody lawFn 0 100000 places0 exc0 place0_44 = true := by kernel_rfl
theorem place0_45_yes : placeYes Try.prog noGlob lawEv 300 lawBody lawFn 0 100000 places0 exc0 place0_45 = true := by kernel_rfl
theorem place0_46_yes : placeYes Try.prog noGlob lawEv 300 lawBody lawFn 0 100000 places0 exc0 place0_46 = true := by kernel_rfl
theorem place0_47_yes : placeYes Try.prog noGlob lawEv 300 lawBody lawFn 0 100000 places0 exc0 place0_47 = true := by kernel_rfl
theorem place0_48_yes : placeYes Try.prog noGlob lawEv 300 lawBody lawFn 0 100000 places0 exc0 place0_48 = true := by kernel_rfl
theorem place0_49_yes : placeYes Try.prog noGlob lawEv 300 lawBody lawFn 0 100000 places0 exc0 place0_49 = true := by kernel_rfl
theorem place0_50_yes : placeYes Try.prog noGlob lawEv 300 lawBody lawFn 0 100000 places0 exc0 place0_50 = true := by kernel_rfl
theorem place0_51_yes : placeYes Try.prog noGlob lawEv 300 lawBody lawFn 0 100000 places0 exc0 place0_51 = true := by kernel_rfl
theorem place0_52_yes : placeYes Try.prog noGlob lawEv 300 lawBody lawFn 0 100000 places0 exc0 place0_52 = true := by kernel_rfl
theorem place0_53_yes : placeYes Try.prog noGlob lawEv 300 lawBody lawFn 0 100000 places0 exc0 place0_53 = true := by kernel_rfl
theorem place0_54_yes : placeYes Try.prog noGlob lawEv 300 lawBody lawFn 0 100000 places0 exc0 place0_54 = true := by kernel_rfl
theorem place0_55_yes : placeYes Try.prog noGlob lawEv 300 lawBody lawFn 0 100000 places0 exc0 place0_55 = true := by kernel_rfl
theorem place0_56_yes : placeYes Try.prog noGlob lawEv 300 lawBody lawFn 0 100000 places0 exc0 place0_56 = true := by kernel_rfl
theorem place0_57_yes : placeYes Try.prog noGlob lawEv 300 lawBody lawFn 0 100000 places0 exc0 place0_57 = true := by kernel_rfl
theorem place0_58_yes : placeYes Try.prog noGlob lawEv 300 lawBody lawFn 0 100000 places0 exc0 place0_58 = true := by kernel_rfl
theorem place0_59_yes : placeYes Try.prog noGlob lawEv 300 lawBody lawFn 0 100000 places0 exc0 place0_59 = true := by kernel_rfl
theorem place0_60_yes : placeYes Try.prog noGlob lawEv 300 lawBody lawFn 0 100000 places0 exc0 place0_60 = true := by kernel_rfl
end
end Go.Proofs.Ythdhleaigphgeaa.Sx
