/- RvcDecodes: ways from one place to the next, part 6. -/
import Derived.Test.YthdhleaigphgeaaURvcDecodes
set_option linter.unusedVariables false
set_option linter.unusedSimpArgs false
namespace Go.Proofs.Ythdhleaigphgeaa.Sx
open Go
noncomputable section
set_option maxRecDepth 100000
theorem place0_181_yes : placeYes Try.prog noGlob lawEv 300 lawBody lawFn 0 100000 places0 exc0 place0_181 = true := by kernel_rfl
theorem place0_182_yes : placeYes Try.prog noGlob lawEv 300 lawBody lawFn 0 100000 places0 exc0 place0_182 = true := by kernel_rfl
theorem place0_183_yes : placeYes Try.prog noGlob lawEv 300 lawBody lawFn 0 100000 places0 exc0 place0_183 = true := by kernel_rfl
theorem place0_184_yes : placeYes Try.prog noGlob lawEv 300 lawBody lawFn 0 100000 places0 exc0 place0_184 = true := by kernel_rfl
theorem place0_185_yes : placeYes Try.prog noGlob lawEv 300 lawBody lawFn 0 100000 places0 exc0 place0_185 = true := by kernel_rfl
theorem place0_186_yes : placeYes Try.prog noGlob lawEv 300 lawBody lawFn 0 100000 places0 exc0 place0_186 = true := by kernel_rfl
theorem place0_187_yes : placeYes Try.prog noGlob lawEv 300 lawBody lawFn 0 100000 places0 exc0 place0_187 = true := by kernel_rfl
theorem place0_188_yes : placeYes Try.prog noGlob lawEv 300 lawBody lawFn 0 100000 places0 exc0 place0_188 = true := by kernel_rfl
theorem place0_189_yes : placeYes Try.prog noGlob lawEv 300 lawBody lawFn 0 100000 places0 exc0 place0_189 = true := by kernel_rfl
theorem place0_190_yes : placeYes Try.prog noGlob lawEv 300 lawBody lawFn 0 100000 places0 exc0 place0_190 = true := by kernel_rfl
theorem place0_191_yes : placeYes Try.prog noGlob lawEv 300 lawBody lawFn 0 100000 places0 exc0 place0_191 = true := by kernel_rfl
theorem place0_192_yes : placeYes Try.prog noGlob lawEv 300 lawBody lawFn 0 100000 places0 exc0 place0_192 = true := by kernel_rfl
theorem place0_193_yes : placeYes Try.prog noGlob lawEv 300 lawBody lawFn 0 100000 places0 exc0 place0_193 = true := by kernel_rfl
theorem place0_194_yes : placeYes Try.prog noGlob lawEv 300 lawBody lawFn 0 100000 places0 exc0 place0_194 = true := by kernel_rfl
theorem place0_195_yes : placeYes Try.prog noGlob lawEv 300 lawBody lawFn 0 100000 places0 exc0 place0_195 = true := by kernel_rfl
theorem place0_196_yes : placeYes Try.prog noGlob lawEv 300 lawBody lawFn 0 100000 places0 exc0 place0_196 = true := by kernel_rfl
theorem place0_197_yes : placeYes Try.prog noGlob lawEv 300 lawBody lawFn 0 100000 places0 exc0 place0_197 = true := by kernel_rfl
theorem place0_198_yes : placeYes Try.prog noGlob lawEv 300 lawBody lawFn 0 100000 places0 exc0 place0_198 = true := by kernel_rfl
theorem place0_199_yes : placeYes Try.prog noGlob lawEv 300 lawBody lawFn 0 100000 places0 exc0 place0_199 = true := by kernel_rfl
theorem place0_200_yes : placeYes Try.prog noGlob lawEv 300 lawBody lawFn 0 100000 places0 exc0 place0_200 = true := by kernel_rfl
theorem place0_201_yes : placeYes Try.prog noGlob lawEv 300 lawBody lawFn 0 100000 places0 exc0 place0_201 = true := by kernel_rfl
theorem place0_202_yes : placeYes Try.prog noGlob lawEv 300 lawBody lawFn 0 100000 places0 exc0 place0_202 = true := by kernel_rfl
theorem place0_203_yes : placeYes Try.prog noGlob lawEv 300 lawBody lawFn 0 100000 places0 exc0 place0_203 = true := by kernel_rfl
theorem place0_204_yes : placeYes Try.prog noGlob lawEv 300 lawBody lawFn 0 100000 places0 exc0 place0_204 = true := by kernel_rfl
theorem place0_205_yes : placeYes Try.prog noGlob lawEv 300 lawBody lawFn 0 100000 places0 exc0 place0_205 = true := by kernel_rfl
theorem place0_206_yes : placeYes Try.prog noGlob lawEv 300 lawBody lawFn 0 100000 places0 exc0 place0_206 = true := by kernel_rfl
theorem place0_207_yes : placeYes Try.prog noGlob lawEv 300 lawBody lawFn 0 100000 places0 exc0 place0_207 = true := by kernel_rfl
theorem place0_208_yes : placeYes Try.prog noGlob lawEv 300 lawBody lawFn 0 100000 places0 exc0 place0_208 = true := by kernel_rfl
theorem place0_209_yes : placeYes Try.prog noGlob lawEv 300 lawBody lawFn 0 100000 places0 exc0 place0_209 = true := by kernel_rfl
theorem place0_210_yes : placeYes Try.prog noGlob lawEv 300 lawBody lawFn 0 100000 places0 exc0 place0_210 = true := by kernel_rfl
end
end Go.Proofs.Ythdhleaigphgeaa.Sx
