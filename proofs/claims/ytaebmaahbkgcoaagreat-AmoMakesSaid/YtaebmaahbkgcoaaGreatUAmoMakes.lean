/- AmoMakes: what is told of it ahead. -/
import Derived.Test.YtaebmaahbkgcoaaGreatUd
import Derived.Test.YtaebmaahbkgcoaaGreatTAmoMakes
namespace Go.Proofs.YtaebmaahbkgcoaaGreat.Sx
open Go
noncomputable section
set_option maxRecDepth 100000
noncomputable abbrev lawFn : Func := Tryz.f3
noncomputable abbrev lawBody : Code := ((Tryz.f3.body).getD .skip)
noncomputable abbrev lawEv : Ev := ev Tryz.prog noGlob base 300 30
def lawPs : List Ps := [.one (some .u8), .one (some .u64), .one (some .u64)]
end
end Go.Proofs.YtaebmaahbkgcoaaGreat.Sx
