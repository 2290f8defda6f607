/- RvcDecodes: ways from one place to the next, part 7. -/
import Derived.Test.YthdhleaigphgeaaURvcDecodes
set_option linter.unusedVariables false
set_option linter.unusedSimpArgs false
namespace Go.Proofs.Ythdhleaigphgeaa.Sx
open Go
noncomputable section
set_option maxRecDepth 100000
theorem place0_211_yes : placeYes Try.prog noGlob lawEv 300 lawBody lawFn 0 100000 places0 exc0 place0_211 = true := by kernel_rfl
theorem place0_212_yes : placeYes Try.prog noGlob lawEv 300 lawBody lawFn 0 100000 places0 exc0 place0_212 = true := by kernel_rfl
theorem place0_213_yes : placeYes Try.prog noGlob lawEv 300 lawBody lawFn 0 100000 places0 exc0 place0_213 = true := by kernel_rfl
theorem place0_214_yes : placeYes Try.prog noGlob lawEv 300 lawBody lawFn 0 100000 places0 exc0 place0_214 = true := by kernel_rfl
theorem place0_215_yes : placeYes Try.prog noGlob lawEv 300 lawBody lawFn 0 100000 places0 exc0 place0_215 = true := by kernel_rfl
theorem place0_216_yes : placeYes Try.prog noGlob lawEv 300 lawBody lawFn 0 100000 places0 exc0 place0_216 = true := by kernel_rfl
theorem place0_217_yes : placeYes Try.prog noGlob lawEv 300 lawBody lawFn 0 100000 places0 exc0 place0_217 = true := by kernel_rfl
theorem place0_218_yes : placeYes Try.prog noGlob lawEv 300 lawBody lawFn 0 100000 places0 exc0 place0_218 = true := by kernel_rfl
theorem place0_219_yes : placeYes Try.prog noGlob lawEv 300 lawBody lawFn 0 100000 places0 exc0 place0_219 = true := by kernel_rfl
theorem place0_220_yes : placeYes Try.prog noGlob lawEv 300 lawBody lawFn 0 100000 places0 exc0 place0_220 = true := by kernel_rfl
theorem place0_221_yes : placeYes Try.prog noGlob lawEv 300 lawBody lawFn 0 100000 places0 exc0 place0_221 = true := by kernel_rfl
theorem place0_222_yes : placeYes Try.prog noGlob lawEv 300 lawBody lawFn 0 100000 places0 exc0 place0_222 = true := by kernel_rfl
theorem place0_223_yes : placeYes Try.prog noGlob lawEv 300 lawBody lawFn 0 100000 places0 exc0 place0_223 = true := by kernel_rfl
theorem place0_224_yes : placeYes Try.prog noGlob lawEv 300 lawBody lawFn 0 100000 places0 exc0 place0_224 = true := by kernel_rfl
theorem place0_225_yes : placeYes Try.prog noGlob lawEv 300 lawBody lawFn 0 100000 places0 exc0 place0_225 = true := by kernel_rfl
theorem place0_226_yes : placeYes Try.prog noGlob lawEv 300 lawBody lawFn 0 100000 places0 exc0 place0_226 = true := by kernel_rfl
theorem place0_227_yes : placeYes Try.prog noGlob lawEv 300 lawBody lawFn 0 100000 places0 exc0 place0_227 = true := by kernel_rfl
theorem place0_228_yes : placeYes Try.prog noGlob lawEv 300 lawBody lawFn 0 100000 places0 exc0 place0_228 = true := by kernel_rfl
theorem place0_229_yes : placeYes Try.prog noGlob lawEv 300 lawBody lawFn 0 100000 places0 exc0 place0_229 = true := by kernel_rfl
theorem place0_230_yes : placeYes Try.prog noGlob lawEv 300 lawBody lawFn 0 100000 places0 exc0 place0_230 = true := by kernel_rfl
theorem place0_231_yes : placeYes Try.prog noGlob lawEv 300 lawBody lawFn 0 100000 places0 exc0 place0_231 = true := by kernel_rfl
theorem place0_232_yes : placeYes Try.prog noGlob lawEv 300 lawBody lawFn 0 100000 places0 exc0 place0_232 = true := by kernel_rfl
theorem place0_233_yes : placeYes Try.prog noGlob lawEv 300 lawBody lawFn 0 100000 places0 exc0 place0_233 = true := by kernel_rfl
theorem place0_234_yes : placeYes Try.prog noGlob lawEv 300 lawBody lawFn 0 100000 places0 exc0 place0_234 = true := by kernel_rfl
theorem place0_235_yes : placeYes Try.prog noGlob lawEv 300 lawBody lawFn 0 100000 places0 exc0 place0_235 = true := by kernel_rfl
theorem place0_236_yes : placeYes Try.prog noGlob lawEv 300 lawBody lawFn 0 100000 places0 exc0 place0_236 = true := by kernel_rfl
theorem place0_237_yes : placeYes Try.prog noGlob lawEv 300 lawBody lawFn 0 100000 places0 exc0 place0_237 = true := by kernel_rfl
theorem place0_238_yes : placeYes Try.prog noGlob lawEv 300 lawBody lawFn 0 100000 places0 exc0 place0_238 = true := by kernel_rfl
theorem place0_239_yes : placeYes Try.prog noGlob lawEv 300 lawBody lawFn 0 100000 places0 exc0 place0_239 = true := by kernel_rfl
end
end Go.Proofs.Ythdhleaigphgeaa.Sx
