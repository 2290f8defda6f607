/- RvcDecodes: ways from one place to the next, part 4. -/
import Derived.Test.YthdhleaigphgeaaURvcDecodes
set_option linter.unusedVariables false
set_option linter.unusedSimpArgs false
namespace Go.Proofs.Ythdhleaigphgeaa.Sx
open Go
noncomputable section
set_option maxRecDepth 100000
theorem place0_121_yes : placeYes Try.prog noGlob lawEv 300 lawBody lawFn 0 100000 places0 exc0 place0_121 = true := by kernel_rfl
theorem place0_122_yes : placeYes Try.prog noGlob lawEv 300 lawBody lawFn 0 100000 places0 exc0 place0_122 = true := by kernel_rfl
theorem place0_123_yes : placeYes Try.prog noGlob lawEv 300 lawBody lawFn 0 100000 places0 exc0 place0_123 = true := by kernel_rfl
theorem place0_124_yes : placeYes Try.prog noGlob lawEv 300 lawBody lawFn 0 100000 places0 exc0 place0_124 = true := by kernel_rfl
theorem place0_125_yes : placeYes Try.prog noGlob lawEv 300 lawBody lawFn 0 100000 places0 exc0 place0_125 = true := by kernel_rfl
theorem place0_126_yes : placeYes Try.prog noGlob lawEv 300 lawBody lawFn 0 100000 places0 exc0 place0_126 = true := by kernel_rfl
theorem place0_127_yes : placeYes Try.prog noGlob lawEv 300 lawBody lawFn 0 100000 places0 exc0 place0_127 = true := by kernel_rfl
theorem place0_128_yes : placeYes Try.prog noGlob lawEv 300 lawBody lawFn 0 100000 places0 exc0 place0_128 = true := by kernel_rfl
theorem place0_129_yes : placeYes Try.prog noGlob lawEv 300 lawBody lawFn 0 100000 places0 exc0 place0_129 = true := by kernel_rfl
theorem place0_130_yes : placeYes Try.prog noGlob lawEv 300 lawBody lawFn 0 100000 places0 exc0 place0_130 = true := by kernel_rfl
theorem place0_131_yes : placeYes Try.prog noGlob lawEv 300 lawBody lawFn 0 100000 places0 exc0 place0_131 = true := by kernel_rfl
theorem place0_132_yes : placeYes Try.prog noGlob lawEv 300 lawBody lawFn 0 100000 places0 exc0 place0_132 = true := by kernel_rfl
theorem place0_133_yes : placeYes Try.prog noGlob lawEv 300 lawBody lawFn 0 100000 places0 exc0 place0_133 = true := by kernel_rfl
theorem place0_134_yes : placeYes Try.prog noGlob lawEv 300 lawBody lawFn 0 100000 places0 exc0 place0_134 = true := by kernel_rfl
theorem place0_135_yes : placeYes Try.prog noGlob lawEv 300 lawBody lawFn 0 100000 places0 exc0 place0_135 = true := by kernel_rfl
theorem place0_136_yes : placeYes Try.prog noGlob lawEv 300 lawBody lawFn 0 100000 places0 exc0 place0_136 = true := by kernel_rfl
theorem place0_137_yes : placeYes Try.prog noGlob lawEv 300 lawBody lawFn 0 100000 places0 exc0 place0_137 = true := by kernel_rfl
theorem place0_138_yes : placeYes Try.prog noGlob lawEv 300 lawBody lawFn 0 100000 places0 exc0 place0_138 = true := by kernel_rfl
theorem place0_139_yes : placeYes Try.prog noGlob lawEv 300 lawBody lawFn 0 100000 places0 exc0 place0_139 = true := by kernel_rfl
theorem place0_140_yes : placeYes Try.prog noGlob lawEv 300 lawBody lawFn 0 100000 places0 exc0 place0_140 = true := by kernel_rfl
theorem place0_141_yes : placeYes Try.prog noGlob lawEv 300 lawBody lawFn 0 100000 places0 exc0 place0_141 = true := by kernel_rfl
theorem place0_142_yes : placeYes Try.prog noGlob lawEv 300 lawBody lawFn 0 100000 places0 exc0 place0_142 = true := by kernel_rfl
theorem place0_143_yes : placeYes Try.prog noGlob lawEv 300 lawBody lawFn 0 100000 places0 exc0 place0_143 = true := by kernel_rfl
theorem place0_144_yes : placeYes Try.prog noGlob lawEv 300 lawBody lawFn 0 100000 places0 exc0 place0_144 = true := by kernel_rfl
theorem place0_145_yes : placeYes Try.prog noGlob lawEv 300 lawBody lawFn 0 100000 places0 exc0 place0_145 = true := by kernel_rfl
theorem place0_146_yes : placeYes Try.prog noGlob lawEv 300 lawBody lawFn 0 100000 places0 exc0 place0_146 = true := by kernel_rfl
theorem place0_147_yes : placeYes Try.prog noGlob lawEv 300 lawBody lawFn 0 100000 places0 exc0 place0_147 = true := by kernel_rfl
theorem place0_148_yes : placeYes Try.prog noGlob lawEv 300 lawBody lawFn 0 100000 places0 exc0 place0_148 = true := by kernel_rfl
theorem place0_149_yes : placeYes Try.prog noGlob lawEv 300 lawBody lawFn 0 100000 places0 exc0 place0_149 = true := by kernel_rfl
theorem place0_150_yes : placeYes Try.prog noGlob lawEv 300 lawBody lawFn 0 100000 places0 exc0 place0_150 = true := by kernel_rfl
end
end Go.Proofs.Ythdhleaigphgeaa.Sx
