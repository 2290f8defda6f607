/- RvcDecodes: ways from one place to the next, part 5. -/
import Derived.Test.YthdhleaigphgeaaURvcDecodes
set_option linter.unusedVariables false
set_option linter.unusedSimpArgs false
namespace Go.Proofs.Ythdhleaigphgeaa.Sx
open Go
noncomputable section
set_option maxRecDepth 100000
theorem place0_151_yes : placeYes Try.prog noGlob lawEv 300 lawBody lawFn 0 100000 places0 exc0 place0_151 = true := by kernel_rfl
theorem place0_152_yes : placeYes Try.prog noGlob lawEv 300 lawBody lawFn 0 100000 places0 exc0 place0_152 = true := by kernel_rfl
theorem place0_153_yes : placeYes Try.prog noGlob lawEv 300 lawBody lawFn 0 100000 places0 exc0 place0_153 = true := by kernel_rfl
theorem place0_154_yes : placeYes Try.prog noGlob lawEv 300 lawBody lawFn 0 100000 places0 exc0 place0_154 = true := by kernel_rfl
theorem place0_155_yes : placeYes Try.prog noGlob lawEv 300 lawBody lawFn 0 100000 places0 exc0 place0_155 = true := by kernel_rfl
theorem place0_156_yes : placeYes Try.prog noGlob lawEv 300 lawBody lawFn 0 100000 places0 exc0 place0_156 = true := by kernel_rfl
theorem place0_157_yes : placeYes Try.prog noGlob lawEv 300 lawBody lawFn 0 100000 places0 exc0 place0_157 = true := by kernel_rfl
theorem place0_158_yes : placeYes Try.prog noGlob lawEv 300 lawBody lawFn 0 100000 places0 exc0 place0_158 = true := by kernel_rfl
theorem place0_159_yes : placeYes Try.prog noGlob lawEv 300 lawBody lawFn 0 100000 places0 exc0 place0_159 = true := by kernel_rfl
theorem place0_160_yes : placeYes Try.prog noGlob lawEv 300 lawBody lawFn 0 100000 places0 exc0 place0_160 = true := by kernel_rfl
theorem place0_161_yes : placeYes Try.prog noGlob lawEv 300 lawBody lawFn 0 100000 places0 exc0 place0_161 = true := by kernel_rfl
theorem place0_162_yes : placeYes Try.prog noGlob lawEv 300 lawBody lawFn 0 100000 places0 exc0 place0_162 = true := by kernel_rfl
theorem place0_163_yes : placeYes Try.prog noGlob lawEv 300 lawBody lawFn 0 100000 places0 exc0 place0_163 = true := by kernel_rfl
theorem place0_164_yes : placeYes Try.prog noGlob lawEv 300 lawBody lawFn 0 100000 places0 exc0 place0_164 = true := by kernel_rfl
theorem place0_165_yes : placeYes Try.prog noGlob lawEv 300 lawBody lawFn 0 100000 places0 exc0 place0_165 = true := by kernel_rfl
theorem place0_166_yes : placeYes Try.prog noGlob lawEv 300 lawBody lawFn 0 100000 places0 exc0 place0_166 = true := by kernel_rfl
theorem place0_167_yes : placeYes Try.prog noGlob lawEv 300 lawBody lawFn 0 100000 places0 exc0 place0_167 = true := by kernel_rfl
theorem place0_168_yes : placeYes Try.prog noGlob lawEv 300 lawBody lawFn 0 100000 places0 exc0 place0_168 = true := by kernel_rfl
theorem place0_169_yes : placeYes Try.prog noGlob lawEv 300 lawBody lawFn 0 100000 places0 exc0 place0_169 = true := by kernel_rfl
theorem place0_170_yes : placeYes Try.prog noGlob lawEv 300 lawBody lawFn 0 100000 places0 exc0 place0_170 = true := by kernel_rfl
theorem place0_171_yes : placeYes Try.prog noGlob lawEv 300 lawBody lawFn 0 100000 places0 exc0 place0_171 = true := by kernel_rfl
theorem place0_172_yes : placeYes Try.prog noGlob lawEv 300 lawBody lawFn 0 100000 places0 exc0 place0_172 = true := by kernel_rfl
theorem place0_173_yes : placeYes Try.prog noGlob lawEv 300 lawBody lawFn 0 100000 places0 exc0 place0_173 = true := by kernel_rfl
theorem place0_174_yes : placeYes Try.prog noGlob lawEv 300 lawBody lawFn 0 100000 places0 exc0 place0_174 = true := by kernel_rfl
theorem place0_175_yes : placeYes Try.prog noGlob lawEv 300 lawBody lawFn 0 100000 places0 exc0 place0_175 = true := by kernel_rfl
theorem place0_176_yes : placeYes Try.prog noGlob lawEv 300 lawBody lawFn 0 100000 places0 exc0 place0_176 = true := by kernel_rfl
theorem place0_177_yes : placeYes Try.prog noGlob lawEv 300 lawBody lawFn 0 100000 places0 exc0 place0_177 = true := by kernel_rfl
theorem place0_178_yes : placeYes Try.prog noGlob lawEv 300 lawBody lawFn 0 100000 places0 exc0 place0_178 = true := by kernel_rfl
theorem place0_179_yes : placeYes Try.prog noGlob lawEv 300 lawBody lawFn 0 100000 places0 exc0 place0_179 = true := by kernel_rfl
theorem place0_180_yes : placeYes Try.prog noGlob lawEv 300 lawBody lawFn 0 100000 places0 exc0 place0_180 = true := by kernel_rfl
end
end Go.Proofs.Ythdhleaigphgeaa.Sx
