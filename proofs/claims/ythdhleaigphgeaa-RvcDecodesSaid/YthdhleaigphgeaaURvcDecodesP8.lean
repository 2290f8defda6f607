/- RvcDecodes: the last place, with works() kept; and the start. -/
import Derived.Test.YthdhleaigphgeaaURvcDecodes
import Derived.Test.YthdhleaigphgeaaTRvcForms
set_option linter.unusedVariables false
set_option linter.unusedSimpArgs false
namespace Go.Proofs.Ythdhleaigphgeaa.Sx
open Go
noncomputable section
set_option maxRecDepth 100000
noncomputable abbrev lawEvK : Ev := ev Try.prog noGlob base 300 30
theorem place0_240_yes : placeYes Try.prog noGlob lawEvK 300 lawBody lawFn 0 100000 places0 exc0 place0_240 = true := by kernel_rfl
theorem start0_yes : startYes Try.prog noGlob lawEv 300 lawBody lawFn 0 100000 places0 exc0 (psV lawPs 0) { nxt := 0, hp := .nil, pc := lawPc0 } = true := by kernel_rfl
end
end Go.Proofs.Ythdhleaigphgeaa.Sx
