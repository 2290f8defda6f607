/- AluDoes: what is told of it ahead. -/
import Derived.Test.YtgfhjldfhcoagaaUd
import Derived.Test.YtgfhjldfhcoagaaTAluDoes
set_option linter.unusedVariables false
set_option linter.unusedSimpArgs false
namespace Go.Proofs.Ytgfhjldfhcoagaa.Sx
open Go
noncomputable section
set_option maxRecDepth 100000
noncomputable abbrev lawFn : Func := Try.f3
noncomputable abbrev lawBody : Code := ((Try.f3.body).getD .skip)
noncomputable abbrev lawEv : Ev := ev Try.prog noGlob base 300 30
def lawPs : List Ps := [.one (some .u8), .one (some .u64), .one (some .u64)]
end
end Go.Proofs.Ytgfhjldfhcoagaa.Sx
