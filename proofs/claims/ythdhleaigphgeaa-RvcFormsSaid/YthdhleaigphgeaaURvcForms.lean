/- RvcForms: what is told of it ahead. -/
import Derived.Test.YthdhleaigphgeaaUd
import Derived.Test.YthdhleaigphgeaaTRvcForms
namespace Go.Proofs.Ythdhleaigphgeaa.Sx
open Go
noncomputable section
set_option maxRecDepth 100000
noncomputable abbrev lawFn : Func := Try.f5
noncomputable abbrev lawBody : Code := ((Try.f5.body).getD .skip)
noncomputable abbrev lawEv : Ev := ev Try.prog noGlob base 300 30
def lawPs : List Ps := [.one (some .u16)]
end
end Go.Proofs.Ythdhleaigphgeaa.Sx
