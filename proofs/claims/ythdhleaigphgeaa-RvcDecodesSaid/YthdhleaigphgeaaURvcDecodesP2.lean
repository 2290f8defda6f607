/- RvcDecodes: ways from one place to the next, part 2. -/
import Derived.Test.YthdhleaigphgeaaURvcDecodes
set_option linter.unusedVariables false
set_option linter.unusedSimpArgs false
namespace Go.Proofs.Ythdhleaigphgeaa.Sx
open Go
noncomputable section
set_option maxRecDepth 100000
theorem place0_61_yes : placeYes Try.prog noGlob lawEv 300 lawBody lawFn 0 100000 places0 exc0 place0_61 = true := by kernel_rfl
theorem place0_62_yes : placeYes Try.prog noGlob lawEv 300 lawBody lawFn 0 100000 places0 exc0 place0_62 = true := by kernel_rfl
theorem place0_63_yes : placeYes Try.prog noGlob lawEv 300 lawBody lawFn 0 100000 places0 exc0 place0_63 = true := by kernel_rfl
theorem place0_64_yes : placeYes Try.prog noGlob lawEv 300 lawBody lawFn 0 100000 places0 exc0 place0_64 = true := by kernel_rfl
theorem place0_65_yes : placeYes Try.prog noGlob lawEv 300 lawBody lawFn 0 100000 places0 exc0 place0_65 = true := by kernel_rfl
theorem place0_66_yes : placeYes Try.prog noGlob lawEv 300 lawBody lawFn 0 100000 places0 exc0 place0_66 = true := by kernel_rfl
theorem place0_67_yes : placeYes Try.prog noGlob lawEv 300 lawBody lawFn 0 100000 places0 exc0 place0_67 = true := by kernel_rfl
theorem place0_68_yes : placeYes Try.prog noGlob lawEv 300 lawBody lawFn 0 100000 places0 exc0 place0_68 = true := by kernel_rfl
theorem place0_69_yes : placeYes Try.prog noGlob lawEv 300 lawBody lawFn 0 100000 places0 exc0 place0_69 = true := by kernel_rfl
theorem place0_70_yes : placeYes Try.prog noGlob lawEv 300 lawBody lawFn 0 100000 places0 exc0 place0_70 = true := by kernel_rfl
theorem place0_71_yes : placeYes Try.prog noGlob lawEv 300 lawBody lawFn 0 100000 places0 exc0 place0_71 = true := by kernel_rfl
theorem place0_72_yes : placeYes Try.prog noGlob lawEv 300 lawBody lawFn 0 100000 places0 exc0 place0_72 = true := by kernel_rfl
theorem place0_73_yes : placeYes Try.prog noGlob lawEv 300 lawBody lawFn 0 100000 places0 exc0 place0_73 = true := by kernel_rfl
theorem place0_74_yes : placeYes Try.prog noGlob lawEv 300 lawBody lawFn 0 100000 places0 exc0 place0_74 = true := by kernel_rfl
theorem place0_75_yes : placeYes Try.prog noGlob lawEv 300 lawBody lawFn 0 100000 places0 exc0 place0_75 = true := by kernel_rfl
theorem place0_76_yes : placeYes Try.prog noGlob lawEv 300 lawBody lawFn 0 100000 places0 exc0 place0_76 = true := by kernel_rfl
theorem place0_77_yes : placeYes Try.prog noGlob lawEv 300 lawBody lawFn 0 100000 places0 exc0 place0_77 = true := by kernel_rfl
theorem place0_78_yes : placeYes Try.prog noGlob lawEv 300 lawBody lawFn 0 100000 places0 exc0 place0_78 = true := by kernel_rfl
theorem place0_79_yes : placeYes Try.prog noGlob lawEv 300 lawBody lawFn 0 100000 places0 exc0 place0_79 = true := by kernel_rfl
theorem place0_80_yes : placeYes Try.prog noGlob lawEv 300 lawBody lawFn 0 100000 places0 exc0 place0_80 = true := by kernel_rfl
theorem place0_81_yes : placeYes Try.prog noGlob lawEv 300 lawBody lawFn 0 100000 places0 exc0 place0_81 = true := by kernel_rfl
theorem place0_82_yes : placeYes Try.prog noGlob lawEv 300 lawBody lawFn 0 100000 places0 exc0 place0_82 = true := by kernel_rfl
theorem place0_83_yes : placeYes Try.prog noGlob lawEv 300 lawBody lawFn 0 100000 places0 exc0 place0_83 = true := by kernel_rfl
theorem place0_84_yes : placeYes Try.prog noGlob lawEv 300 lawBody lawFn 0 100000 places0 exc0 place0_84 = true := by kernel_rfl
theorem place0_85_yes : placeYes Try.prog noGlob lawEv 300 lawBody lawFn 0 100000 places0 exc0 place0_85 = true := by kernel_rfl
theorem place0_86_yes : placeYes Try.prog noGlob lawEv 300 lawBody lawFn 0 100000 places0 exc0 place0_86 = true := by kernel_rfl
theorem place0_87_yes : placeYes Try.prog noGlob lawEv 300 lawBody lawFn 0 100000 places0 exc0 place0_87 = true := by kernel_rfl
theorem place0_88_yes : placeYes Try.prog noGlob lawEv 300 lawBody lawFn 0 100000 places0 exc0 place0_88 = true := by kernel_rfl
theorem place0_89_yes : placeYes Try.prog noGlob lawEv 300 lawBody lawFn 0 100000 places0 exc0 place0_89 = true := by kernel_rfl
theorem place0_90_yes : placeYes Try.prog noGlob lawEv 300 lawBody lawFn 0 100000 places0 exc0 place0_90 = true := by kernel_rfl
end
end Go.Proofs.Ythdhleaigphgeaa.Sx
