/- CsrKeeps: what is told of it ahead. -/
import Derived.Test.YtffhbmkpcenkoaaDoorUd
import Derived.Test.YtffhbmkpcenkoaaDoorTCsrKeeps
set_option linter.unusedVariables false
set_option linter.unusedSimpArgs false
namespace Go.Proofs.YtffhbmkpcenkoaaDoor.Sx
open Go
noncomputable section
set_option maxRecDepth 100000
/-- A table of the start, as a block. -/
def tbk (i : Nat) : Nat × Blk := (i, match tat tabs i with | some t => .ro t.cells | none => .dead)
noncomputable abbrev lawFn : Func := Tryd.f4
noncomputable abbrev lawBody : Code := ((Tryd.f4.body).getD .skip)
noncomputable abbrev lawEv : Ev := ev Tryd.prog (tabGlob tabs) baseK 1645504557321206042154969182557350504982735865633579863348608300 30
def lawPs : List Ps := [.flat [some .u64, some .u64, some .u64, some .u64, some .u64, some .u64, some .u64, some .u64, some .u64, some .u64, some .u64, some .u64, some .u64, some .u64, some .u64, some .u64, some .u64, some .u64, some .u64, some .u64, some .u64, some .u64, some .u64, some .u64, some .u64, some .u64, some .u64, some .u64, some .u64, some .u64, some .u64], .flat [some .u16, some .u8, some .u64, some .u64]]
end
end Go.Proofs.YtffhbmkpcenkoaaDoor.Sx
