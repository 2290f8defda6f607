/- RvcDecodes: ways from one place to the next, part 3. -/
import Derived.Test.YthdhleaigphgeaaURvcDecodes
set_option linter.unusedVariables false
set_option linter.unusedSimpArgs false
namespace Go.Proofs.Ythdhleaigphgeaa.Sx
open Go
noncomputable section
set_option maxRecDepth 100000
theorem place0_91_yes : placeYes Try.prog noGlob lawEv 300 lawBody lawFn 0 100000 places0 exc0 place0_91 = true := by kernel_rfl
theorem place0_92_yes : placeYes Try.prog noGlob lawEv 300 lawBody lawFn 0 100000 places0 exc0 place0_92 = true := by kernel_rfl
theorem place0_93_yes : placeYes Try.prog noGlob lawEv 300 lawBody lawFn 0 100000 places0 exc0 place0_93 = true := by kernel_rfl
theorem place0_94_yes : placeYes Try.prog noGlob lawEv 300 lawBody lawFn 0 100000 places0 exc0 place0_94 = true := by kernel_rfl
theorem place0_95_yes : placeYes Try.prog noGlob lawEv 300 lawBody lawFn 0 100000 places0 exc0 place0_95 = true := by kernel_rfl
theorem place0_96_yes : placeYes Try.prog noGlob lawEv 300 lawBody lawFn 0 100000 places0 exc0 place0_96 = true := by kernel_rfl
theorem place0_97_yes : placeYes Try.prog noGlob lawEv 300 lawBody lawFn 0 100000 places0 exc0 place0_97 = true := by kernel_rfl
theorem place0_98_yes : placeYes Try.prog noGlob lawEv 300 lawBody lawFn 0 100000 places0 exc0 place0_98 = true := by kernel_rfl
theorem place0_99_yes : placeYes Try.prog noGlob lawEv 300 lawBody lawFn 0 100000 places0 exc0 place0_99 = true := by kernel_rfl
theorem place0_100_yes : placeYes Try.prog noGlob lawEv 300 lawBody lawFn 0 100000 places0 exc0 place0_100 = true := by kernel_rfl
theorem place0_101_yes : placeYes Try.prog noGlob lawEv 300 lawBody lawFn 0 100000 places0 exc0 place0_101 = true := by kernel_rfl
theorem place0_102_yes : placeYes Try.prog noGlob lawEv 300 lawBody lawFn 0 100000 places0 exc0 place0_102 = true := by kernel_rfl
theorem place0_103_yes : placeYes Try.prog noGlob lawEv 300 lawBody lawFn 0 100000 places0 exc0 place0_103 = true := by kernel_rfl
theorem place0_104_yes : placeYes Try.prog noGlob lawEv 300 lawBody lawFn 0 100000 places0 exc0 place0_104 = true := by kernel_rfl
theorem place0_105_yes : placeYes Try.prog noGlob lawEv 300 lawBody lawFn 0 100000 places0 exc0 place0_105 = true := by kernel_rfl
theorem place0_106_yes : placeYes Try.prog noGlob lawEv 300 lawBody lawFn 0 100000 places0 exc0 place0_106 = true := by kernel_rfl
theorem place0_107_yes : placeYes Try.prog noGlob lawEv 300 lawBody lawFn 0 100000 places0 exc0 place0_107 = true := by kernel_rfl
theorem place0_108_yes : placeYes Try.prog noGlob lawEv 300 lawBody lawFn 0 100000 places0 exc0 place0_108 = true := by kernel_rfl
theorem place0_109_yes : placeYes Try.prog noGlob lawEv 300 lawBody lawFn 0 100000 places0 exc0 place0_109 = true := by kernel_rfl
theorem place0_110_yes : placeYes Try.prog noGlob lawEv 300 lawBody lawFn 0 100000 places0 exc0 place0_110 = true := by kernel_rfl
theorem place0_111_yes : placeYes Try.prog noGlob lawEv 300 lawBody lawFn 0 100000 places0 exc0 place0_111 = true := by kernel_rfl
theorem place0_112_yes : placeYes Try.prog noGlob lawEv 300 lawBody lawFn 0 100000 places0 exc0 place0_112 = true := by kernel_rfl
theorem place0_113_yes : placeYes Try.prog noGlob lawEv 300 lawBody lawFn 0 100000 places0 exc0 place0_113 = true := by kernel_rfl
theorem place0_114_yes : placeYes Try.prog noGlob lawEv 300 lawBody lawFn 0 100000 places0 exc0 place0_114 = true := by kernel_rfl
theorem place0_115_yes : placeYes Try.prog noGlob lawEv 300 lawBody lawFn 0 100000 places0 exc0 place0_115 = true := by kernel_rfl
theorem place0_116_yes : placeYes Try.prog noGlob lawEv 300 lawBody lawFn 0 100000 places0 exc0 place0_116 = true := by kernel_rfl
theorem place0_117_yes : placeYes Try.prog noGlob lawEv 300 lawBody lawFn 0 100000 places0 exc0 place0_117 = true := by kernel_rfl
theorem place0_118_yes : placeYes Try.prog noGlob lawEv 300 lawBody lawFn 0 100000 places0 exc0 place0_118 = true := by kernel_rfl
theorem place0_119_yes : placeYes Try.prog noGlob lawEv 300 lawBody lawFn 0 100000 places0 exc0 place0_119 = true := by kernel_rfl
theorem place0_120_yes : placeYes Try.prog noGlob lawEv 300 lawBody lawFn 0 100000 places0 exc0 place0_120 = true := by kernel_rfl
end
end Go.Proofs.Ythdhleaigphgeaa.Sx
