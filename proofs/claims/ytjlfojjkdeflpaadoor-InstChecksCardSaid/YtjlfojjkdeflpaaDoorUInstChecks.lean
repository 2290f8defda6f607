/- InstChecks: what is told of it ahead. -/
import Derived.Test.YtjlfojjkdeflpaaDoorUd
import Derived.Test.YtjlfojjkdeflpaaDoorTInstAwake
set_option linter.unusedVariables false
set_option linter.unusedSimpArgs false
namespace Go.Proofs.YtjlfojjkdeflpaaDoor.Sx
open Go
noncomputable section
set_option maxRecDepth 100000
/-- A table of the start, as a block. -/
def tbk (i : Nat) : Nat × Blk := (i, match tat tabs i with | some t => .ro t.cells | none => .dead)
noncomputable abbrev lawFn : Func := Tryd.f3
noncomputable abbrev lawBody : Code := ((Tryd.f3.body).getD .skip)
noncomputable abbrev lawEv : Ev := ev Tryd.prog (tabGlob tabs) base 2130220 30
def lawPs : List Ps := [.flat [some .u8, some .u8, some .u8, some .u8, some .i64, some .u16, some .u8]]
end
end Go.Proofs.YtjlfojjkdeflpaaDoor.Sx
