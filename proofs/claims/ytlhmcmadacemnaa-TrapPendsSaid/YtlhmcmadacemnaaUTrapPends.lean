/- TrapPends: what is told of it ahead. -/
import Derived.Test.YtlhmcmadacemnaaUd
import Derived.Test.YtlhmcmadacemnaaTk
set_option linter.unusedVariables false
set_option linter.unusedSimpArgs false
namespace Go.Proofs.Ytlhmcmadacemnaa.Sx
open Go
noncomputable section
set_option maxRecDepth 100000
noncomputable abbrev lawFn : Func := Try.f3
noncomputable abbrev lawBody : Code := ((Try.f3.body).getD .skip)
noncomputable abbrev lawEv : Ev := ev Try.prog noGlob noBase 1645504557321206042154969182557350504982735865633579863348608300 30
def lawPs : List Ps := [.flat [some .u64, some .u64, some .u64, some .u64, some .u64, some .u64, some .u64, some .u64, some .u64, some .u64, some .u64, some .u64, some .u64, some .u64, some .u64, some .u64, some .u64, some .u64, some .u64, some .u64, some .u64, some .u64, some .u64, some .u64, some .u64, some .u64, some .u64, some .u64, some .u64, some .u64, some .u64], .one (some .u8)]
end
end Go.Proofs.Ytlhmcmadacemnaa.Sx
